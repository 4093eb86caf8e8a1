"""Points [39] and [40]: recorders that are led along, cut and opened anew, beside a book of the test's own."""

import unittest

from plain import (
    ODD, all_tuples, caught, chance, own_asks, own_full, own_needed, own_pieces, own_place, some_octets, some_shape, soon, with_part,
)
from test_blocks import NO_SHAPE
from wrecktold.chips import Chips
from wrecktold.errors import Broken, Cut, Refused
from wrecktold.recorder import open_recorder
from wrecktold.salvage import data_of, salvage, told_blocks

PLENTY = 10 ** 9


def pieces_there(memory, slot):
    return [row[slot] for row in memory if row is not None]


def own_part(need, memory, slot):
    """What a ring's row has for a slot: of each number pieces of one block alone lie there."""
    parts = pieces_there(memory, slot)
    if all(part is None for part in parts):
        return None
    numbers = {part[0] for part in parts if part not in (None, "torn")}
    whole = len(numbers) == 1 and None not in parts and "torn" not in parts and len(parts) >= need
    return numbers.pop() if whole else "torn"


class Flight:
    """Chips and a recorder on them, and a book of what was laid; `asks` by name the stretches in force."""

    def __init__(self, case, shape):
        self.case = case
        self.shape = shape
        self.chips = Chips(shape[0], shape[2])
        self.book = {}
        self.number, self.asks = 0, {}
        self.anew()

    def anew(self):
        """Opens the recorder, uncut; the ring is that of what lies there."""
        self.recorder = open_recorder(self.chips, self.shape)
        self.row = [own_part(self.shape[1], self.chips.memory(), slot) for slot in range(self.shape[2])]
        self.given = max(self.asks, default=-1) + 1

    def twin(self):
        other = Flight(self.case, self.shape)
        other.chips = self.chips.twin()
        other.book, other.number, other.asks = dict(self.book), self.number, dict(self.asks)
        other.anew()
        return other

    def told_asks(self, asks):
        return tuple((name, *asks[name]) for name in sorted(asks))

    def octets(self, asks, data):
        return own_asks(self.told_asks(asks)) + data

    def room(self, asks):
        return self.shape[1] * self.shape[4] - len(self.octets(asks, ()))

    def kept(self):
        return own_needed(self.number, self.shape[3], list(self.asks.values()))

    def own_ask(self, ahead, behind):
        """The asks with this stretch given, or `None`."""
        first = self.number
        while first > 0 and first - 1 in self.row and first > self.number - ahead:
            first -= 1
        end = self.number + behind - 1
        stretches = [*self.asks.values(), (first, end)]
        if first > end or own_full(self.shape[2], self.shape[3], self.number, stretches) is not None:
            return None
        asks = {**self.asks, self.given: (first, end)}
        return asks if self.room(asks) >= 0 else None

    def plan(self, deed):
        """(asks, data, slot, what is told, asks at the choice of the place) of a deed; `None` if nothing is laid."""
        word, *rest = deed
        if word == "hear":
            asks, data, told, around = self.asks, rest[0], self.number, self.asks
        if word == "ask":
            asks, data = self.own_ask(*rest), ()
            if asks is None:
                return None
            around, told = asks, (self.given, *asks[self.given])
        if word == "release":
            asks = {name: stretch for name, stretch in self.asks.items() if name != rest[0]}
            data, told, around = (), self.number, self.asks
        slot = own_place(self.row, self.number, self.shape[3], list(around.values()))
        return asks, data, slot, told

    def lines(self, asks, data):
        chips, need, _, _, cells = self.shape
        return own_pieces(chips, need, cells, self.octets(asks, data))

    def lacking(self, number, slot, lines):
        """The chips on which a write is due, in their order."""
        memory = self.chips.memory()
        return [chip for chip, row in enumerate(memory) if row is not None and row[slot] != (number, lines[chip])]

    def do(self, deed):
        return getattr(self.recorder, deed[0])(*deed[1:])

    def lead(self, deed):
        """Does a deed uncut, and looks at what is told and at the steps taken."""
        plan = self.plan(deed)
        self.chips.give(PLENTY)
        if plan is None:
            was = self.state()
            self.case.assertIsNone(self.do(deed))
            self.case.assertEqual((self.state(), self.chips.steps), (was, PLENTY))
        else:
            asks, data, slot, told = plan
            lines = self.lines(asks, data)
            due = len(self.lacking(self.number, slot, lines))
            self.case.assertEqual(self.do(deed), told)
            self.case.assertEqual(PLENTY - self.chips.steps, due)
            self.case.assertEqual(self.lacking(self.number, slot, lines), [])
            self.took(asks, data, slot)
        self.chips.give(None)
        self.look()

    def took(self, asks, data, slot):
        """Writes into the book that the next block is laid."""
        if self.asks.keys() < asks.keys():
            self.given += 1
        self.book[self.number] = (self.told_asks(asks), data)
        self.row[slot] = self.number
        self.asks = asks
        self.number += 1

    def state(self):
        ring = self.recorder.ring
        return ring.slots, ring.last, ring.number, ring.row, ring.asks, ring.given, self.chips.memory()

    def look(self):
        """Looks whether all is as the book tells."""
        case, shape = self.case, self.shape
        memory = self.chips.memory()
        ring = (shape[2], shape[3], self.number, tuple(self.row), self.told_asks(self.asks), self.given)
        case.assertEqual(self.state(), ring + (memory,))
        case.assertTrue(all_tuples((self.recorder.ring.row, self.recorder.ring.asks)))
        case.assertEqual(self.recorder.room(), self.room(self.asks))
        told = told_blocks(shape, memory)
        case.assertEqual({number: (asks, data) for number, asks, data in told}, {number: self.book[number] for number, _, _ in told})
        numbers = [number for number, _, _ in told]
        case.assertEqual([number for number, _, _ in salvage(shape, memory)], numbers)
        case.assertEqual(sorted(set(numbers)), numbers)
        case.assertLessEqual(set(self.kept()), set(numbers))
        case.assertLessEqual(set(self.kept()), {own_part(shape[1], memory, slot) for slot in range(shape[2])})

    def cut(self, deed, steps):
        """Does a deed that is cut behind so many steps: (asks, data, slot), the recorder being of no use now."""
        asks, data, slot, _ = self.plan(deed)
        self.chips.give(steps)
        caught(Cut, self.do, deed)
        self.case.assertEqual(self.chips.steps, 0)
        self.chips.give(None)
        return asks, data, slot

    def settle(self, asks, data, slot):
        """Looks what is left of a block under way, and writes into the book whether it is there; how many steps mend it."""
        memory = self.chips.memory()
        lines = self.lines(asks, data)
        parts = [row is not None and row[slot] == (self.number, lines[chip]) for chip, row in enumerate(memory)]
        if sum(parts) < self.shape[1]:
            self.book.pop(self.number, None)
            return 0
        due = len(self.lacking(self.number, slot, lines))
        self.took(asks, data, slot)
        return due

    def reopen(self, due):
        """Opens the recorder anew where so many pieces lack, cut at each step ahead of it."""
        self.case.assertEqual(self.newest_lacks(), due)
        for steps in range(due):
            other = self.chips.twin()
            other.give(steps)
            caught(Cut, open_recorder, other, self.shape)
            other.give(None)
            self.case.assertEqual(open_recorder(other, self.shape).ring.number, self.number)
        # Cut again and again: one step mends one piece, and leaves one more torn.
        while self.newest_lacks() > 1:
            self.chips.give(1)
            caught(Cut, open_recorder, self.chips, self.shape)
        if due:
            self.chips.give(0)
            caught(Cut, open_recorder, self.chips, self.shape)
        self.chips.give(PLENTY)
        self.anew()
        self.case.assertEqual(PLENTY - self.chips.steps, 1 if due else 0)
        self.chips.give(None)
        self.look()

    def newest_lacks(self):
        """How many pieces of the newest block of the book lack in its slot."""
        if self.number == 0 or self.number - 1 not in self.row:
            return 0
        asks, data = self.book[self.number - 1]
        lines = own_pieces(self.shape[0], self.shape[1], self.shape[4], own_asks(asks) + data)
        return len(self.lacking(self.number - 1, self.row.index(self.number - 1), lines))

    def lose_one(self, dice):
        """Loses one more chip, if that may be."""
        left = [chip for chip in range(self.shape[0]) if not self.chips.is_lost(chip)]
        if len(left) > self.shape[1]:
            self.chips.lose(dice.choice(left))


def some_deed(dice, flight):
    word = dice.choice(("hear", "hear", "hear", "ask", "ask", "release"))
    if word == "hear" or word == "release" and not flight.asks:
        return "hear", some_octets(dice, max(0, flight.room(flight.asks)))
    if word == "ask":
        return "ask", dice.randint(0, 3), dice.randint(0, 2)
    return "release", dice.choice(sorted(flight.asks))


def wide_shape(dice):
    """A shape by chance whose blocks hold some asks, mostly."""
    chips, need, slots, last, cells = some_shape(dice)
    return chips, need, slots, dice.randint(1, max(1, last // 2)), max(cells, 2) + dice.choice((0, 20, 40))


class Recorders(unittest.TestCase):
    def test_the_example(self):
        chips, shape = Chips(3, 4), (3, 2, 4, 1, 12)
        recorder = open_recorder(chips, shape)
        told = recorder.hear((1, 2)), recorder.ask(1, 1), recorder.room(), recorder.ask(0, 9), recorder.hear(()), recorder.ring.row
        self.assertEqual(told, (0, (0, 0, 1), 11, None, 2, (0, 1, 2, None)))
        chips.lose(0)
        self.assertEqual((open_recorder(chips, shape).ring.asks, open_recorder(chips, shape).release(0)), (((0, 0, 1),), 3))

    def test_the_first_pieces(self):
        chips, shape = Chips(3, 4), (3, 2, 4, 1, 3)
        recorder = open_recorder(chips=chips, shape=list(shape))
        self.assertEqual(chips.memory(), ((None,) * 4,) * 3)
        self.assertEqual(recorder.hear(data=[1, 2]), 0)
        lines = own_pieces(3, 2, 3, (4, 0, 1, 2))
        self.assertEqual([row[0] for row in chips.memory()], [(0, line) for line in lines])
        self.assertEqual(recorder.ask(ahead=1, behind=0), None)
        self.assertEqual((recorder.ring.number, recorder.ring.given), (1, 0))

    def test_led_along_beside_a_book(self):
        dice = chance(111)
        deeds = {"hear": 0, "ask": 0, "release": 0}
        for turn in range(60):
            flight = Flight(self, wide_shape(dice))
            for step in range(25):
                deed = some_deed(dice, flight)
                deeds[deed[0]] += flight.plan(deed) is not None
                flight.lead(deed)
                if dice.random() < 0.1:
                    flight.lose_one(dice)
                if dice.random() < 0.15:
                    flight.reopen(0)
        self.assertTrue(min(deeds.values()) > 40, deeds)

    def test_cut_at_each_step_and_opened_anew(self):
        dice = chance(112)
        there = {True: 0, False: 0}
        for turn in range(25):
            flight = Flight(self, wide_shape(dice))
            for step in range(14):
                deed = some_deed(dice, flight)
                plan = flight.plan(deed)
                if plan is not None:
                    due = len(flight.lacking(flight.number, plan[2], flight.lines(*plan[:2])))
                    for steps in range(due):
                        other = flight.twin()
                        # A ring that is made anew may give other names and places.
                        plan = other.plan(deed)
                        if plan is None or steps >= len(other.lacking(other.number, plan[2], other.lines(*plan[:2]))):
                            continue
                        there[self.cut_and_go_on(dice, other, deed, steps)] += 1
                flight.lead(deed)
                if dice.random() < 0.1:
                    flight.lose_one(dice)
        self.assertTrue(min(there.values()) > 100, there)

    def cut_and_go_on(self, dice, flight, deed, steps):
        """Whether the block of a deed that is cut is there when the recorder is opened anew; it is led along then."""
        number = flight.number
        if dice.random() < 0.3:
            flight.lose_one(dice)
            plan = flight.plan(deed)
            if steps >= len(flight.lacking(flight.number, plan[2], flight.lines(*plan[:2]))):
                return True
        left = flight.cut(deed, steps)
        if dice.random() < 0.3:
            flight.lose_one(dice)
        flight.reopen(flight.settle(*left))
        told = flight.number > number
        for again in range(dice.randint(1, 3)):
            other = some_deed(dice, flight)
            plan = flight.plan(other)
            due = 0 if plan is None else len(flight.lacking(flight.number, plan[2], flight.lines(*plan[:2])))
            if due and dice.random() < 0.5:
                flight.reopen(flight.settle(*flight.cut(other, dice.randrange(due))))
            else:
                flight.lead(other)
        return told

    def test_the_opening_mends_just_what_lacks(self):
        for lost in ((), (0,), (4,), (1, 3)):
            for steps in range(5 - len(lost)):
                chips, shape = Chips(5, 3), (5, 3, 3, 1, 4)
                recorder = open_recorder(chips, shape)
                for data in [(1,), (2,), (3,)]:
                    recorder.hear(data)
                for chip in lost:
                    chips.lose(chip)
                recorder = open_recorder(chips, shape)
                chips.give(steps)
                caught(Cut, recorder.hear, (9, 9))
                chips.give(PLENTY)
                anew = open_recorder(chips, shape)
                left = 5 - len(lost) - steps
                self.assertEqual(PLENTY - chips.steps, left if steps >= 3 else 0)
                self.assertEqual(anew.ring.number, 4 if steps >= 3 else 3)
                self.assertEqual(anew.ring.row, (3 if steps >= 3 else "torn", 1, 2))
                chips.give(PLENTY)
                self.assertEqual(open_recorder(chips, shape).ring.row, anew.ring.row)
                self.assertEqual(chips.steps, PLENTY)

    def test_pieces_that_lie_there_already_are_not_written_again(self):
        chips, shape = Chips(4, 2), (4, 3, 2, 1, 3)
        chips.give(2)
        caught(Cut, open_recorder(chips, shape).hear, (7, 7))
        chips.give(PLENTY)
        recorder = open_recorder(chips, shape)
        self.assertEqual((recorder.ring.row, recorder.ring.number, chips.steps), (("torn", None), 0, PLENTY))
        self.assertEqual((recorder.hear((7, 7)), PLENTY - chips.steps), (0, 2))
        self.assertEqual(data_of(shape, chips.memory(), 0), (7, 7))

    def test_the_slots_told_with_an_ask_given_and_while_it_is_released(self):
        chips, shape = Chips(2, 4), (2, 1, 4, 1, 60)
        recorder = open_recorder(chips, shape)
        for many in range(4):
            recorder.hear((many,))
        # While blocks 2 and 3 are released they still lie there: block 6 is laid over 4, and only 7 over 2.
        self.assertEqual((recorder.ask(2, 0), recorder.ring.row), ((0, 2, 3), (4, 1, 2, 3)))
        self.assertEqual((recorder.hear(()), recorder.ring.row), (5, (4, 5, 2, 3)))
        self.assertEqual((recorder.release(0), recorder.ring.row), (6, (6, 5, 2, 3)))
        self.assertEqual((recorder.hear(()), recorder.ring.row), (7, (6, 5, 7, 3)))
        recorder = open_recorder(Chips(2, 3), (2, 1, 3, 1, 60))
        for many in range(4):
            recorder.hear((many,))
        self.assertEqual(recorder.ring.row, (3, 1, 2))
        self.assertEqual((recorder.ask(3, 0), recorder.ask(1, 0), recorder.ring.row), (None, (0, 3, 3), (3, 4, 2)))

    def test_an_ask_that_no_block_can_hold(self):
        asks = ((0, 0, 1),)
        cells = len(own_asks(asks))
        for less in (0, 1):
            chips, shape = Chips(2, 6), (2, 1, 6, 1, cells - less)
            recorder = open_recorder(chips, shape)
            recorder.hear(())
            memory = chips.memory()
            self.assertEqual(recorder.ask(1, 1), None if less else (0, 0, 1))
            if less:
                self.assertEqual((chips.memory(), recorder.ring.number, recorder.ring.given, recorder.ring.asks), (memory, 1, 0, ()))
            else:
                self.assertEqual((recorder.room(), recorder.ask(1, 0), recorder.hear(()), recorder.room()), (0, None, 2, 0))
                caught(Refused, recorder.hear, (1,))

    def test_names_anew(self):
        chips, shape = Chips(2, 9), (2, 1, 9, 1, 60)
        recorder = open_recorder(chips, shape)
        recorder.hear(())
        self.assertEqual([recorder.ask(1, 0), recorder.ask(1, 0)], [(0, 0, 0), (1, 1, 1)])
        self.assertEqual((recorder.release(1), recorder.ring.given), (3, 2))
        self.assertEqual(recorder.ask(0, 1), (2, 4, 4))
        self.assertEqual((recorder.release(2), open_recorder(chips, shape).ask(1, 0)), (5, (1, 5, 5)))


class Wrong(unittest.TestCase):
    def test_shapes(self):
        chips = Chips(3, 4)
        for bad in [*NO_SHAPE, (4, 2, 4, 1, 12), (2, 1, 4, 1, 12), (3, 2, 5, 1, 12), (3, 2, 3, 1, 12), [8, 2, 64, 1, 12]]:
            self.assertIs(caught(Refused, open_recorder, chips, bad).at, bad)
        self.assertEqual(chips.memory(), ((None,) * 4,) * 3)

    def test_what_is_refused_changes_nothing(self):
        chips, shape = Chips(3, 6), (3, 2, 6, 1, 12)
        recorder = open_recorder(chips, shape)
        recorder.hear((1,))
        recorder.ask(1, 0)
        recorder.ask(1, 0)
        recorder.release(1)
        chips.give(PLENTY)
        was = recorder.ring.row, recorder.ring.number, recorder.ring.asks, recorder.ring.given, chips.memory()
        for bad in [*ODD, (0, 256), (0,) * 13, (0,) * 100, "ab"]:
            if bad not in ([], (), [0], (0, 0), (1, 2, 3, 4, 5, 6, 7, 8)):
                self.assertIs(caught(Refused, recorder.hear, bad).at, bad)
        for bad in [*ODD, 1001]:
            self.assertIs(caught(Refused, recorder.ask, bad, None).at, bad)
            self.assertIs(caught(Refused, recorder.ask, 0, bad).at, bad)
        for bad in [*ODD, 1, 2]:
            self.assertIs(caught(Refused, recorder.release, bad).at, bad)
        self.assertIsNone(recorder.ask(0, 1000))
        self.assertIsNone(recorder.ask(0, 0))
        self.assertEqual((recorder.ring.row, recorder.ring.number, recorder.ring.asks, recorder.ring.given, chips.memory()), was)
        self.assertEqual((chips.steps, recorder.room()), (PLENTY, 24 - 12))
        self.assertEqual(recorder.hear((0,) * 12), 4)


class Unreadable(unittest.TestCase):
    def broken(self, chips, shape, number):
        """Looks that the chips cannot be opened, and stay as they are."""
        chips.give(0)
        memory = chips.memory()
        self.assertEqual(caught(Broken, open_recorder, chips, shape).at, number)
        self.assertEqual(chips.memory(), memory)
        chips.give(None)

    def test_a_newest_block_that_is_none(self):
        shape = (3, 2, 4, 2, 4)
        for octets in [(), (9,), (4, 1), (4, 0, 1, 2, 3, 4, 5, 6), (4, 1, 4, 1, 3, 1, 0, 1)]:
            chips = Chips(3, 4)
            open_recorder(chips, shape).hear((5,))
            lines = own_pieces(3, 2, 4, octets)
            for chip in (0, 2):
                chips.write(chip, 1, (77, lines[chip]))
            if octets[:2] == (4, 0):
                self.broken(chips, shape, 76)
            else:
                self.broken(chips, shape, 77)

    def test_blocks_that_lie_whole_nowhere(self):
        shape = (4, 2, 6, 3, 20)
        for slot, number in [(1, 4), (2, 5), (3, 3), (4, None), (5, 2), (0, None)]:
            for part in (None, "torn"):
                chips = Chips(4, 6)
                recorder = open_recorder(chips, shape)
                for many in range(6):
                    recorder.hear((many,))
                # Blocks 2 and 3 are kept, and laid behind them 6, 7, 8, 9; the last three are 7, 8, 9.
                recorder = open_recorder(chips, shape)
                self.assertEqual(recorder.ask(4, 0), None)
                self.assertEqual(recorder.ask(3, 0), None)
                self.assertEqual(recorder.ask(2, 0), (0, 4, 5))
                self.assertEqual(recorder.ring.row, (6, 1, 2, 3, 4, 5))
                self.assertEqual([recorder.hear((many,)) for many in range(3)], [7, 8, 9])
                self.assertEqual(recorder.ring.row, (6, 7, 8, 9, 4, 5))
                lying = recorder.ring.row[slot]
                piece = chips.read(3, slot)
                chips.write(3, slot, (999, piece[1]))
                if lying == 6:
                    self.assertEqual(open_recorder(chips, shape).ring.row, ("torn", 7, 8, 9, 4, 5))
                elif lying == 9:
                    # The newest block is mended.
                    self.assertEqual(open_recorder(chips, shape).ring.row, (6, 7, 8, 9, 4, 5))
                    self.assertEqual(chips.read(3, slot), piece)
                else:
                    self.broken(chips, shape, lying)
                    chips.write(3, (slot + 1) % 6, (999, piece[1]))
                    others = [lying, (6, 7, 8, 9, 4, 5)[(slot + 1) % 6]]
                    self.broken(chips, shape, min(other for other in others if other not in (6, 9)))
                    chips.lose(3)
                    self.assertEqual(open_recorder(chips, shape).ring.row, (6, 7, 8, 9, 4, 5))

    def test_asks_in_force_for_more_than_can_lie_there(self):
        for asks, number, broken in [(((0, 0, 10 ** 9 - 1),), 9, 0), (((5, 3, 10 ** 9 - 1),), 10 ** 9 - 1, 3), ((), 10 ** 9 - 1, 10 ** 9 - 2)]:
            shape = (2, 1, 64, 2, 40)
            chips = Chips(2, 64)
            lines = own_pieces(2, 1, 40, own_asks(asks))
            chips.write(0, 0, (number, lines[0]))
            chips.give(0)
            self.assertEqual(soon(self, 1, caught, Broken, open_recorder, chips, shape).at, broken)

    def test_an_old_block_that_is_no_block(self):
        shape = (3, 2, 4, 1, 4)
        chips = Chips(3, 4)
        recorder = open_recorder(chips, shape)
        recorder.hear((1,))
        recorder.hear((2,))
        # Only what is to be kept is asked for, and only of the newest one whether it is a block's.
        for chip, line in enumerate(own_pieces(3, 2, 4, (9,))):
            chips.write(chip, 0, (0, line))
        ring = open_recorder(chips, shape).ring
        self.assertEqual((ring.row, ring.number), ((0, 1, None, None), 2))

    def test_more_chips_lost_than_may_be(self):
        shape = (3, 2, 4, 1, 4)
        chips = Chips(3, 4)
        open_recorder(chips, shape).hear((1,))
        chips.lose(0)
        chips.lose(1)
        ring = open_recorder(chips, shape).ring
        self.assertEqual((ring.row, ring.number), (("torn", None, None, None), 0))
        chips.lose(2)
        self.assertEqual(open_recorder(chips, shape).ring.row, (None,) * 4)
        self.assertEqual(open_recorder(chips, shape).hear(()), 0)


class Limits(unittest.TestCase):
    def test_the_greatest_shape(self):
        dice = chance(113)
        shape = (8, 4, 64, 30, 200)
        chips = Chips(8, 64)

        def lead():
            recorder = open_recorder(chips, shape)
            for turn in range(130):
                recorder.hear(tuple(dice.randrange(256) for _ in range(recorder.room())))
            for turn in range(8):
                self.assertEqual(recorder.ask(2, 1)[0], turn)
            return recorder

        recorder = soon(self, 4, lead)
        self.assertEqual(recorder.ring.number, 138)
        for chip in (1, 3, 5, 7):
            chips.lose(chip)
            anew = soon(self, 1, open_recorder, chips, shape)
            self.assertEqual((anew.ring.row, anew.ring.asks), (recorder.ring.row, recorder.ring.asks))
        self.assertEqual(soon(self, 1, anew.release, 3), 138)


if __name__ == "__main__":
    unittest.main()
