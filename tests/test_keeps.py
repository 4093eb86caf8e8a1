"""Points [33] to [36]: what is kept of a ring, beside plain lists of numbers and of slots."""

import itertools
import unittest

from plain import ODD, all_tuples, caught, chance, own_full, own_needed, own_place, soon, with_part
from wrecktold.errors import Refused
from wrecktold.keeps import Keeps, check_stretches, first_full, in_all, keeps_of, need_at, needed, place_in

NO_NUMBER = [part for part in ODD if part != 10 ** 40]
NO_STRETCH = [
    *(part for part in ODD if part != (0, 0)), (0,), (0, 0, 0), (1, 0), (-1, 0), (True, 1), (0, True), (None, 0), (0, None), ("0", 0),
    {0: 0, 1: 1},
]
NO_STRETCHES = [*(part for part in ODD if part not in ([], ())), (0, 1), "ab", {(0, 1): 2}]


def some_stretches(dice, most=4, far=20):
    told = []
    for _ in range(dice.randint(0, most)):
        first = dice.randint(0, far)
        told.append((first, first + dice.choice((0, 1, dice.randint(0, 8)))))
    return tuple(told)


class Stretches(unittest.TestCase):
    def test_stretches_are_told_as_tuples(self):
        told = check_stretches([[0, 0], (3, 10 ** 6), [2, 3]])
        self.assertEqual(told, ((0, 0), (3, 10 ** 6), (2, 3)))
        self.assertTrue(all_tuples(told))
        self.assertEqual(check_stretches(value=[]), ())

    def test_what_is_none(self):
        lots = [*NO_STRETCHES, *([(0, 1), part] for part in NO_STRETCH), *((part,) for part in NO_STRETCH)]
        for bad in lots:
            self.assertIs(caught(Refused, check_stretches, bad).at, bad)
            self.assertIs(caught(Refused, in_all, bad).at, bad)
            self.assertIs(caught(Refused, needed, None, 1, bad).at, bad)
            self.assertIs(caught(Refused, need_at, None, 1, bad).at, bad)
            self.assertIs(caught(Refused, first_full, 3, 1, None, bad).at, bad)
            self.assertIs(caught(Refused, place_in, (None, 0), None, 1, bad).at, bad)
        for bad in NO_NUMBER:
            self.assertIs(caught(Refused, needed, bad, 1, [(0, 1)]).at, bad)
            self.assertIs(caught(Refused, need_at, bad, 1, ()).at, bad)
            self.assertIs(caught(Refused, first_full, 3, 1, bad, [(0, 1)]).at, bad)
            self.assertIs(caught(Refused, place_in, (None, 0), bad, 1, ()).at, bad)

    def test_what_is_needed_beside_plain_lists(self):
        dice = chance(81)
        for turn in range(1500):
            number, last, stretches = dice.randint(0, 30), dice.randint(0, 6), some_stretches(dice)
            kept = own_needed(number, last, stretches)
            told = needed(number, last, [list(part) for part in stretches])
            self.assertEqual(told, kept)
            self.assertIs(told.__class__, tuple)
            self.assertEqual(needed(number=number, last=last, stretches=stretches), kept)
            self.assertEqual(need_at(number=number, last=last, stretches=stretches), 1 + len(kept))
            blocks = {block for first, end in stretches for block in range(first, end + 1)}
            self.assertEqual(in_all(stretches=stretches), len(blocks))
        self.assertEqual(needed(12, 2, ((5, 7),)), (5, 6, 7, 10, 11))
        self.assertEqual((needed(0, 5, ((0, 9),)), needed(3, 0, ()), in_all(())), ((), (), 0))

    def test_up_to_the_limits(self):
        dice = chance(82)
        stretches = []
        for turn in range(64):
            first = dice.randint(0, 1000)
            stretches.append((first, first + dice.randint(0, 999)))
        self.assertEqual(soon(self, 1, needed, 1000, 63, stretches), own_needed(1000, 63, stretches))
        self.assertEqual(soon(self, 1, need_at, 1000, 63, stretches), 1 + len(own_needed(1000, 63, stretches)))
        self.assertEqual(soon(self, 1, first_full, 64, 63, 0, stretches), own_full(64, 63, 0, stretches))
        self.assertEqual(soon(self, 1, first_full, 64, 8, 1000, [(2000, 2999)]), own_full(64, 8, 1000, [(2000, 2999)]))
        # Rings may be asked of blocks of any number.
        far = [(10 ** 6, 10 ** 9)]
        self.assertEqual(soon(self, 1, need_at, 10 ** 6 + 9, 2, far), 10)
        self.assertEqual(soon(self, 1, first_full, 9, 2, 7, far), 10 ** 6 + 9)
        self.assertEqual(soon(self, 1, in_all, far), 10 ** 9 - 10 ** 6 + 1)


class Room(unittest.TestCase):
    def test_the_first_full_one_by_one(self):
        dice = chance(83)
        none = 0
        for turn in range(2000):
            slots = dice.randint(2, 14)
            last, number, stretches = dice.randint(1, slots - 1), dice.randint(0, 30), some_stretches(dice)
            told = first_full(slots, last, number, stretches)
            self.assertEqual(told, own_full(slots, last, number, stretches))
            self.assertIs(told is None, in_all(stretches) + last + 1 <= slots)
            self.assertEqual(first_full(slots=slots, last=last, number=number, stretches=[list(part) for part in stretches]), told)
            none += told is None
        self.assertTrue(200 < none < 1800)
        self.assertEqual(first_full(6, 2, 12, [(5, 7), (12, 13)]), 15)

    def test_what_is_needed_never_falls(self):
        dice = chance(84)
        for turn in range(200):
            last, stretches = dice.randint(0, 6), some_stretches(dice)
            many = [need_at(number, last, stretches) for number in range(60)]
            self.assertEqual(many, sorted(many))
            self.assertEqual(many[-1], in_all(stretches) + last + 1)

    def test_which_error_comes_first(self):
        for bad in [*ODD, 0, 1, 65]:
            self.assertIs(caught(Refused, first_full, bad, None, None, None).at, bad)
        for bad in [*ODD, 0, 5, 64]:
            self.assertIs(caught(Refused, first_full, 5, bad, None, None).at, bad)
        stretches = [(1, 0)]
        self.assertIs(caught(Refused, first_full, 5, 4, -1, stretches).at, stretches)
        self.assertEqual(caught(Refused, first_full, 5, 4, -1, ()).at, -1)
        self.assertIsNone(first_full(64, 63, 10 ** 6, ()))


class Places(unittest.TestCase):
    def test_places_beside_a_plain_look(self):
        dice = chance(85)
        full = 0
        for turn in range(3000):
            number, last, stretches = dice.randint(0, 12), dice.randint(0, 4), some_stretches(dice, 3, 10)
            share, top = dice.choice((0, 0, 0.1)), dice.choice((number, 14))
            row = [None if dice.random() < share else dice.randint(max(0, number - 5), top) for _ in range(dice.randint(2, 8))]
            if dice.random() < 0.2:
                row[dice.randrange(len(row))] = "torn"
            slot = own_place(row, number, last, stretches)
            if slot is None:
                full += 1
                self.assertIs(caught(Refused, place_in, row, number, last, stretches).at, row)
            else:
                self.assertEqual(place_in(row=tuple(row), number=number, last=last, stretches=stretches), slot)
                self.assertEqual(place_in(row, number, last, [list(part) for part in stretches]), slot)
        self.assertGreater(full, 100)

    def test_what_goes_ahead(self):
        self.assertEqual(place_in((5, None, "torn", None, "torn"), 6, 1, ()), 2)
        self.assertEqual(place_in((5, None, 4, None), 6, 1, ()), 1)
        self.assertEqual(place_in((5, 3, 4, 2), 6, 1, ()), 3)
        self.assertEqual(place_in((5, 3, 4, 2), 6, 1, ((2, 3),)), 2)
        self.assertEqual(place_in((9, 5, 2, 2), 6, 1, ()), 2)
        self.assertEqual(place_in((9, 5, 4), 6, 2, ()), 0)
        self.assertEqual(place_in((0, 1), 2, 0, ((0, 0),)), 1)

    def test_what_is_no_row(self):
        for bad in [*ODD, (0,), (0,) * 65, (0, True), (0, -1), (0, "TORN"), (0, (1,)), (False, None), "01"]:
            if bad not in ((0, 0), (1, 2, 3, 4, 5, 6, 7, 8)):
                self.assertIs(caught(Refused, place_in, bad, None, None, None).at, bad)
        for row in [(0, 1), [0, 1], (3, 3)]:
            self.assertIs(caught(Refused, place_in, row, 9, 9, [(0, 3)]).at, row)
        self.assertEqual(place_in((None,) * 64, 0, 1, ()), 0)


class Book:
    """A ring as a plain list of slots, by the document's words."""

    def __init__(self, slots, last):
        self.slots, self.last, self.number, self.given = slots, last, 0, 0
        self.row = [None] * slots
        self.asks = {}

    def stretch(self, ahead, behind):
        first = self.number
        while first > 0 and first - 1 in self.row and first > self.number - ahead:
            first -= 1
        return [first, self.number + behind - 1]

    def full(self, ahead, behind):
        first, end = self.stretch(ahead, behind)
        more = [(first, end)] if first <= end else []
        return own_full(self.slots, self.last, self.number, [*self.asks.values(), *more])

    def ask(self, ahead, behind):
        first, end = self.stretch(ahead, behind)
        if first > end or self.full(ahead, behind) is not None:
            return None
        self.asks[self.given] = (first, end)
        self.given += 1
        return self.given - 1, first, end

    def lay(self, part):
        slot = own_place(self.row, self.number, self.last, list(self.asks.values()))
        self.row[slot] = part
        return slot


def told_of(ring):
    return ring.slots, ring.last, ring.number, ring.row, ring.asks, ring.given


class Rings(unittest.TestCase):
    def alike(self, ring, book):
        """Looks whether a ring tells all that the book does."""
        asks = tuple((name, *book.asks[name]) for name in sorted(book.asks))
        self.assertEqual(told_of(ring), (book.slots, book.last, book.number, tuple(book.row), asks, book.given))
        self.assertTrue(all_tuples((ring.row, ring.asks)))
        self.assertEqual(ring.stretches(), tuple(part[1:] for part in asks))
        self.assertEqual(ring.place(), own_place(book.row, book.number, book.last, list(book.asks.values())))
        there = book.number
        while there > 0 and there - 1 in book.row:
            there -= 1
        self.assertEqual(ring.first_there(), there)
        kept = own_needed(book.number, book.last, list(book.asks.values()))
        self.assertLessEqual(set(kept), set(book.row))

    def test_rings_led_along(self):
        dice = chance(86)
        given = 0
        for turn in range(120):
            slots = dice.randint(2, 12)
            last = dice.randint(1, slots - 1)
            ring, book = Keeps(slots, last), Book(slots, last)
            for step in range(40):
                self.alike(ring, book)
                word = dice.choice(("lay", "lay", "lay", "cut", "ask", "ask", "release", "anew"))
                if word == "lay":
                    number = book.number
                    self.assertEqual(ring.go_on(), (book.lay(number), number))
                    book.number += 1
                if word == "cut":
                    self.assertEqual(ring.torn(), book.lay("torn"))
                if word == "ask":
                    ahead, behind = dice.randint(0, 4), dice.randint(0, 3)
                    stretch = tuple(book.stretch(ahead, behind))
                    self.assertEqual(ring.stretch_of(ahead=ahead, behind=behind), stretch if stretch[0] <= stretch[1] else None)
                    self.assertEqual(ring.full_with(ahead=ahead, behind=behind), book.full(ahead, behind))
                    told = book.ask(ahead, behind)
                    given += told is not None
                    self.assertEqual(ring.ask(ahead, behind), told)
                if word == "release" and book.asks:
                    name = dice.choice(sorted(book.asks))
                    self.assertIsNone(ring.release(name=name))
                    del book.asks[name]
                if word == "anew":
                    asks = [[name, *book.asks[name]] for name in sorted(book.asks, key=lambda name: dice.random())]
                    ring = keeps_of(slots=slots, last=last, row=list(book.row), asks=asks)
                    book.given = max([name + 1 for name in book.asks], default=0)
        self.assertGreater(given, 200)

    def test_the_beginning(self):
        ring = Keeps(slots=4, last=2)
        self.assertEqual(told_of(ring), (4, 2, 0, (None,) * 4, (), 0))
        self.assertEqual((ring.place(), ring.first_there(), ring.stretch_of(5, 0), ring.ask(3, 0)), (0, 0, None, None))
        self.assertEqual((ring.stretches(), ring.stretch_of(5, 2), ring.full_with(5, 2)), ((), (0, 1), 4))
        self.assertEqual((ring.torn(), ring.torn(), ring.row, ring.number), (0, 0, ("torn", None, None, None), 0))
        self.assertEqual((ring.ask(5, 1), ring.given, ring.go_on()), ((0, 0, 0), 1, (0, 0)))

    def test_what_is_refused_changes_nothing(self):
        for bad in [*ODD, 0, 1, 65]:
            self.assertIs(caught(Refused, Keeps, bad, None).at, bad)
            self.assertIs(caught(Refused, keeps_of, bad, None, None, None).at, bad)
        for bad in [*ODD, 0, 5]:
            self.assertIs(caught(Refused, Keeps, 5, bad).at, bad)
            self.assertIs(caught(Refused, keeps_of, 5, bad, None, None).at, bad)
        ring = Keeps(6, 2)
        for _ in range(7):
            ring.go_on()
        ring.ask(2, 0)
        ring.ask(1, 0)
        ring.release(0)
        was = told_of(ring)
        for bad in [*ODD, 1001, -1]:
            for call in (ring.full_with, ring.ask):
                self.assertIs(caught(Refused, call, bad, None).at, bad)
                self.assertIs(caught(Refused, call, 1000, bad).at, bad)
        for bad in [*ODD, 0, 2, True]:
            self.assertIs(caught(Refused, ring.release, bad).at, bad)
        self.assertIsNone(ring.ask(0, 1000))
        self.assertIsNone(ring.ask(0, 0))
        self.assertEqual(told_of(ring), was)
        self.assertEqual(was[4:], (((1, 6, 6),), 2))

    def test_what_no_ring_is_of(self):
        for bad in [*ODD, (0, 1), (0, 1, 2, 3), (0, 1, 1), (3, 3, None), (0, 1, True), (0, 1, -1), (0, 1, "TORN"), "012"]:
            self.assertIs(caught(Refused, keeps_of, 3, 1, bad, None).at, bad)
        row = (3, 4, None, "torn", "torn", None)
        for bad in [*NO_STRETCHES, [(0, 4, 4), (0, 3, 3)], [(0, 4)], [(0, 4, 4, 4)], [(0, 5, 4)], [(True, 4, 4)], [(0, 4, None)], [(-1, 4, 4)]]:
            self.assertIs(caught(Refused, keeps_of, 6, 2, row, bad).at, bad)
        # Blocks that lack, and such as will lack room: 2 last ones and 1 leave room for 3.
        for bad in [[(0, 2, 3)], [(0, 2, 2)], [(0, 3, 3), (1, 0, 0)], [(0, 3, 6)], [(0, 9, 12)], [(0, 3, 4), (1, 20, 21)]]:
            self.assertIs(caught(Refused, keeps_of, 6, 2, row, bad).at, bad)
        for right in [[], [(0, 3, 4)], [(7, 3, 5)], [(0, 9, 11)], [(4, 20, 21), (2, 4, 4)], [(0, 3, 4), (1, 4, 5)]]:
            ring = keeps_of(6, 2, row, right)
            asks = tuple(sorted(right))
            self.assertEqual(told_of(ring), (6, 2, 5, row, asks, max([part[0] + 1 for part in right], default=0)))
        for last, bad in [(2, (4, None, "torn")), (2, (1, 4, 0)), (2, (2, 4, 0)), (1, (1, 4, None))]:
            if last == 2:
                asks = []
                self.assertIs(caught(Refused, keeps_of, 3, last, bad, asks).at, asks)
            else:
                self.assertEqual(keeps_of(3, last, bad, ()).number, 5)
        self.assertEqual(keeps_of(3, 2, (None, "torn", 0), ()).number, 1)
        self.assertEqual(told_of(keeps_of(3, 2, [None, "torn", None], [])), (3, 2, 0, (None, "torn", None), (), 0))

    def test_later_changes_have_no_effect(self):
        row, asks = [3, 4, None, None, None], [[0, 3, 4]]
        ring = keeps_of(5, 2, row, asks)
        row[2] = 9
        asks[0][1] = 0
        asks.append([1, 2, 2])
        self.assertEqual((ring.row, ring.asks), ((3, 4, None, None, None), ((0, 3, 4),)))

    def test_an_ask_is_given_exactly_if_all_to_come_can_be_laid(self):
        dice = chance(87)
        given = {True: 0, False: 0}
        for turn in range(300):
            slots = dice.randint(2, 12)
            ring = Keeps(slots, dice.randint(1, slots - 1))
            for step in range(dice.randint(0, 15)):
                ring.go_on()
                if dice.random() < 0.1:
                    ring.ask(dice.randint(0, 3), dice.randint(0, 3))
            ahead, behind = dice.randint(0, 3), dice.randint(0, 3)
            stretch = ring.stretch_of(ahead, behind)
            if stretch is None:
                continue
            full = None
            row, stretches = ring.row, ring.stretches() + (stretch,)
            for number in range(ring.number, ring.number + 40):
                slot = own_place(row, number, ring.last, stretches)
                if slot is None:
                    full = number
                    break
                row = tuple(with_part(row, slot, number))
            self.assertEqual(ring.full_with(ahead, behind), full)
            told = ring.ask(ahead, behind)
            self.assertIs(told is None, full is not None)
            given[told is not None] += 1
            for step in range(40):
                ring.go_on()
                self.assertLessEqual(set(own_needed(ring.number, ring.last, ring.stretches())), set(ring.row))
        self.assertTrue(min(given.values()) > 20, given)

    def test_no_rule_has_a_longer_row_of_last_blocks(self):
        dice = chance(88)
        for turn in range(40):
            slots = dice.randint(2, 5)
            ring = Keeps(slots, dice.randint(1, slots - 1))
            others = {frozenset()}
            for step in range(9):
                if dice.random() < 0.4:
                    ring.ask(dice.randint(0, 2), dice.randint(0, 2))
                if dice.random() < 0.2 and ring.asks:
                    ring.release(dice.choice(ring.asks)[0])
                number, kept = ring.number, own_needed(ring.number, ring.last, ring.stretches())
                others = {blocks for blocks in others if blocks >= set(kept)}
                after = set()
                for blocks in others:
                    if len(blocks) < slots:
                        after.add(blocks | {number})
                    for block in blocks - set(kept):
                        after.add(blocks - {block} | {number})
                others = after
                ring.go_on()
                rows = [next(many for many in itertools.count() if number - many not in blocks) for blocks in others]
                self.assertEqual(ring.number - ring.first_there(), max(rows))

    def test_the_example(self):
        ring = Keeps(6, 2)
        self.assertEqual([ring.go_on() for turn in range(7)], [(0, 0), (1, 1), (2, 2), (3, 3), (4, 4), (5, 5), (0, 6)])
        self.assertEqual((ring.row, ring.first_there()), ((6, 1, 2, 3, 4, 5), 1))
        self.assertEqual((ring.ask(2, 1), ring.full_with(2, 1), ring.ask(3, 0)), ((0, 5, 7), None, None))
        self.assertEqual([ring.go_on() for turn in range(5)], [(1, 7), (2, 8), (3, 9), (4, 10), (2, 11)])
        self.assertEqual(ring.row, (6, 7, 11, 9, 10, 5))

    def test_a_thousand_blocks(self):
        def lead():
            ring = Keeps(64, 20)
            for turn in range(1000):
                ring.go_on()
                ring.ask(2, 2)
                if turn % 20 == 19:
                    for ask in ring.asks:
                        ring.release(ask[0])
            return ring.number
        self.assertEqual(soon(self, 3, lead), 1000)


if __name__ == "__main__":
    unittest.main()
