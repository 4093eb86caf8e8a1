"""Points [5], [6], [7]: things, their forms, and how they are read."""

import unittest

from plain import ODD, all_tuples, caught, chance, deep, same
from wrecktold.errors import BadOctets, BadRow, Broken, Refused
from wrecktold.forms import (
    healing, is_row, is_value, read_row, read_rows, read_value, value_length, whole_value, write_row, write_value,
)

SIGNS = "abcdefghijklmnopqrstuvwxyz0123456789-_ "
GREATEST = 256 ** 200 - 1
LEAST = -(256 ** 200)

THINGS = [
    None, 0, 1, 255, 256, 65535, 65536, GREATEST, -1, -2, -256, -257, -65536, LEAST, "", "a", " ", "-_", SIGNS,
    "z" * 255, "z" * 256, "9" * 4095, (), (None,), ((), ((), ())), (0,) * 255, (0,) * 256, (None,) * 4095,
    ("a", 1, None, ("b", (2, -2))), deep(40),
]
NO_THINGS = [
    True, False, GREATEST + 1, LEAST - 1, 10 ** 600, "A", "a\n", "\u00e9", "a.b", "\t", "a" * 4096, (None,) * 4096,
    [0, True], ((0, ("", "B")),), deep(41), deep(50), (deep(40),), Refused(1), [Refused(2)],
]


def plain_number(number):
    octets = number.to_bytes((number.bit_length() + 7) // 8, "big")
    return [len(octets), *octets]


def plain_form(thing):
    """The form, reckoned otherwise."""
    if thing is None:
        return [0]
    if isinstance(thing, int):
        return [1, *plain_number(thing)] if thing >= 0 else [2, *plain_number(~thing)]
    if isinstance(thing, str):
        return [3, *plain_number(len(thing)), *map(SIGNS.find, thing)]
    return sum((plain_form(part) for part in thing), [4, *plain_number(len(thing))])


def tupled(thing):
    return tuple(tupled(part) for part in thing) if isinstance(thing, (list, tuple)) else thing


def some_thing(dice, room=3):
    """A thing by chance."""
    kind = dice.randrange(5 if room else 4)
    if kind == 0:
        return None
    if kind in (1, 2):
        size = dice.choice((0, 1, 300, 2 ** 16, 2 ** 70, 256 ** 30))
        return dice.randint(0, size) if kind == 1 else -1 - dice.randint(0, size)
    if kind == 3:
        return "".join(dice.choice(SIGNS) for _ in range(dice.choice((0, 1, 3, 300))))
    return [some_thing(dice, room - 1) for _ in range(dice.randint(0, 4))]


def some_row(dice):
    return ("".join(dice.choice(SIGNS) for _ in range(dice.randint(0, 3))), *(some_thing(dice) for _ in range(dice.randint(0, 3))))


class Machine:
    """Reads octets one by one by a stack of what is awaited: told whether it still can become whole."""

    def __init__(self, rows):
        # Awaited: ("thing", deep), ("row",), ("text",), ("sign",), ("octets", many), ("count", ..) ..
        self.rows = rows
        self.stack = [("row",)] if rows else [("thing", 0)]

    def whole(self):
        return not self.stack

    def feed(self, octet):
        """Whether the octet can stand there."""
        if not self.stack:
            if not self.rows:
                return False
            self.stack = [("row",)]
        word, *more = self.stack.pop()
        return getattr(self, word)(octet, *more)

    def thing(self, octet, around):
        if octet > 4 or (octet == 4 and around == 40):
            return False
        if octet in (1, 2):
            self.stack.append(("size", 200, ()))
        if octet == 3:
            self.stack.append(("size", 2, ("sign",)))
        if octet == 4:
            self.stack.append(("size", 2, ("thing", around + 1)))
        return True

    def row(self, octet):
        self.stack.append(("size", 2, ("rest",)))
        return octet == 4

    def text(self, octet):
        self.stack.append(("size", 2, ("sign",)))
        return octet == 3

    def sign(self, octet):
        return octet < len(SIGNS)

    def size(self, octet, most, each):
        if octet > most or (octet == 0 and each == ("rest",)):
            return False
        if octet:
            self.stack.append(("figure", 0, octet, each, True))
        return True

    def figure(self, octet, told, left, each, first):
        if first and octet == 0:
            return False
        told = told * 256 + octet
        if left > 1:
            self.stack.append(("figure", told, left - 1, each, False))
            return not each or told * 256 <= 4095
        if each == ("rest",):
            self.stack.extend([("thing", 1)] * (told - 1) + [("text",)])
        elif each:
            self.stack.extend([each] * told)
        return not each or told <= 4095


def fate(octets, rows):
    """("whole", place) of the first end of a form, ("broken", place), or ("cut", how many)."""
    machine = Machine(rows)
    for at, octet in enumerate(octets):
        if machine.whole() and not rows:
            return "whole", at
        if not machine.feed(octet):
            return "broken", at
    return ("whole" if machine.whole() else "cut"), len(octets)


def gone_on(machine, octet):
    """The machine behind one octet more, `None` if it can't stand there."""
    twin = Machine(True)
    twin.stack = list(machine.stack)
    return twin if twin.feed(octet) else None


def plain_healing(octets, most):
    """The first of the shortest octets with which rows are whole, looked for one by one."""
    machine = Machine(True)
    if not octets:
        return ()
    for octet in octets:
        machine.feed(octet)
    layer = {(): machine}
    for turn in range(most + 1):
        for added, machine in layer.items():
            if machine.whole():
                return added
        longer = ((added + (octet,), gone_on(layer[added], octet)) for added in layer for octet in range(256))
        layer = {added: machine for added, machine in longer if machine}
    return None


class Things(unittest.TestCase):
    def test_what_has_a_form(self):
        for thing in THINGS:
            self.assertIs(is_value(thing), True)
        for value in NO_THINGS:
            self.assertIs(is_value(value), False)
        self.assertIs(is_value(value=[[None]]), True)

    def test_forty_sequences_one_within_another_and_one_more(self):
        for many in range(1, 51):
            self.assertIs(is_value(deep(many)), many <= 40)
            self.assertIs(is_value([0, "a", deep(many), 0]), many <= 39)

    def test_rows(self):
        for row in [("a",), ["", None], (" ", deep(39)), ("a",) + (None,) * 4094, ["a" * 4095, GREATEST, LEAST]]:
            self.assertIs(is_row(row), True)
            self.assertEqual(write_row(row), write_value(row))
        for value in [*NO_THINGS, None, 3, "a", (), [], (1,), (None, "a"), ((), "a"), ("a", deep(40)), ("A",), ("a", True)]:
            self.assertIs(is_row(value), False)
        self.assertIs(is_row(("a",) + (None,) * 4095), False)

    def test_any_value(self):
        for value in ODD:
            self.assertIn(is_value(value), (True, False))
            self.assertIs(is_row(value), isinstance(value, list) and same(value, ["a"]))


class Writing(unittest.TestCase):
    def test_the_example(self):
        self.assertEqual(write_value([None, -3, "ab"]), (4, 1, 3, 0, 2, 1, 2, 3, 1, 2, 0, 1))
        self.assertEqual(value_length(256 ** 2), 5)

    def test_forms(self):
        self.assertEqual(write_value(0), (1, 0))
        self.assertEqual(write_value(258), (1, 2, 1, 2))
        self.assertEqual(write_value(-1), (2, 0))
        self.assertEqual(write_value(-257), (2, 2, 1, 0))
        self.assertEqual(write_value(""), (3, 0))
        self.assertEqual(write_value("az09-_ "), (3, 1, 7, 0, 25, 26, 35, 36, 37, 38))
        self.assertEqual(write_value(value=()), (4, 0))

    def test_all_things_beside_a_plain_form(self):
        dice = chance(1)
        for thing in [*THINGS, *(some_thing(dice) for _ in range(300))]:
            octets = write_value(thing)
            self.assertEqual(octets, tuple(plain_form(thing)))
            self.assertEqual(value_length(thing), len(octets))
            self.assertIs(octets.__class__, tuple)

    def test_what_is_no_thing_is_refused_itself(self):
        for value in NO_THINGS:
            self.assertIs(caught(Refused, write_value, value).at, value)
            self.assertIs(caught(Refused, value_length, value=value).at, value)

    def test_rows_that_are_none(self):
        for value in [None, 7, True, "a", Refused(1), (), [], ("a",) * 4096]:
            self.assertEqual(caught(BadRow, write_row, value).at, -1)
        for value in [(1, 2), (None,), (("a",), "a"), ("A", True), [True]]:
            self.assertEqual(caught(BadRow, write_row, value).at, 0)
        for bad in [*NO_THINGS, deep(40)]:
            self.assertEqual(caught(BadRow, write_row, ("a", 0, bad, bad)).at, 2)
        self.assertEqual(caught(BadRow, write_row, row=("a",) * 4094 + (True,)).at, 4094)
        self.assertEqual(write_row(["a", deep(39)]), tuple(plain_form(["a", deep(39)])))


class Reading(unittest.TestCase):
    def test_the_example(self):
        octets = write_row(("kept", (None, 3))) + (4, 1, 2, 3)
        self.assertEqual(read_value((9, 9) + octets, 2), (("kept", (None, 3)), 19))
        self.assertEqual(read_rows(octets), ((("kept", (None, 3)),), 17))
        self.assertEqual(healing(octets), (0, 0))

    def test_what_was_written_is_read_whatever_stands_around(self):
        dice = chance(2)
        for thing in [*THINGS, *(some_thing(dice) for _ in range(200))]:
            octets = write_value(thing)
            ahead = tuple(dice.randrange(256) for _ in range(dice.randrange(4)))
            behind = tuple(dice.randrange(256) for _ in range(dice.randrange(4)))
            told = read_value(list(ahead + octets + behind), len(ahead))
            self.assertTrue(same(told, (tupled(thing), len(ahead) + len(octets))))
            self.assertTrue(all_tuples(told))
            self.assertEqual(whole_value(octets), tupled(thing))
            self.assertEqual(write_value(told[0]), octets)

    def test_rows_are_read_likewise(self):
        dice = chance(3)
        for turn in range(200):
            row = some_row(dice)
            octets = write_row(row)
            self.assertEqual(read_row((7,) + octets + (0,), 1), (tupled(row), len(octets) + 1))
            self.assertEqual(read_value(octets, 0), (tupled(row), len(octets)))
            self.assertEqual(read_row(octets=octets, at=0), (tupled(row), len(octets)))

    def test_each_cut_can_be_gone_on_with(self):
        dice = chance(4)
        for thing in [some_thing(dice) for _ in range(60)]:
            octets = write_value(thing)
            for at in range(min(len(octets), 400)):
                self.assertEqual(caught(Broken, read_value, octets[:at], 0).at, at)
                self.assertEqual(caught(Broken, whole_value, octets[:at]).at, at)
            for at in range(len(octets), len(octets) + 3):
                self.assertEqual(caught(Broken, read_value, octets, at).at, len(octets))
                self.assertEqual(caught(Broken, read_row, octets, at).at, len(octets))

    def test_whole_values_have_nothing_behind(self):
        self.assertEqual(caught(Broken, whole_value, (0, 0)).at, 1)
        self.assertEqual(caught(Broken, whole_value, write_value("abc") + (255,)).at, 6)
        self.assertEqual(caught(Broken, whole_value, octets=()).at, 0)
        self.assertEqual(whole_value([4, 1, 2, 0, 1, 0]), (None, 0))

    def test_octets_turned_put_in_and_left_out(self):
        dice = chance(5)
        for turn in range(3000):
            octets = list(write_value(some_thing(dice, 2)))[:40]
            at = dice.randrange(len(octets))
            octets[at:at + dice.randrange(2)] = [dice.choice((0, 1, 2, 3, 4, 5, 38, 39, 200, 201, 255))] * dice.randrange(3)
            word, place = fate(octets, False)
            if word == "whole":
                thing, behind = read_value(octets, 0)
                self.assertEqual(behind, place)
                self.assertEqual(write_value(thing), tuple(octets[:behind]))
            else:
                self.assertEqual(caught(Broken, read_value, octets, 0).at, place)

    def test_places_that_are_broken(self):
        for octets, place in [
            ((5,), 0), ((255, 0), 0), ((1, 201), 1), ((2, 255, 1), 1), ((1, 1, 0), 2), ((1, 2, 0, 1), 2), ((2, 1, 0), 2),
            ((3, 3, 1), 1), ((3, 1, 0), 2), ((3, 2, 0, 9), 2), ((3, 2, 16), 2), ((3, 1, 1, 39), 3), ((3, 1, 2, 0, 40), 4),
            ((4, 3), 1), ((4, 1, 0), 2), ((4, 2, 16, 0), 2), ((4, 1, 2, 0, 5), 4), ((4, 1, 1) * 40 + (4,), 120),
        ]:
            self.assertEqual(caught(Broken, read_value, octets, 0).at, place)
            self.assertEqual(caught(Broken, read_value, (7, 7) + octets, 2).at, place + 2)
            self.assertEqual(caught(Broken, whole_value, octets).at, place)
        for octets in [(1, 200, 1), (3, 2, 15), (3, 2, 15, 255), (4, 2, 15), (4, 2, 15, 255), (4, 1, 1) * 40]:
            self.assertEqual(caught(Broken, read_value, octets, 0).at, len(octets))
        self.assertEqual(read_value((4, 1, 1) * 39 + (4, 0), 0)[1], 119)

    def test_broken_rows(self):
        for octets, place in [
            ((0,), 0), ((1, 0), 0), ((3, 0), 0), ((5,), 0), ((4, 0), 1), ((4, 3), 1), ((4, 1, 0), 2), ((4, 2, 16), 2),
            ((4, 1, 1, 0), 3), ((4, 1, 1, 4), 3), ((4, 1, 1, 3, 1, 1, 39), 6), ((4, 1, 2, 3, 0, 5), 5),
            ((4, 1, 2, 3, 0) + (4, 1, 1) * 39 + (4,), 122),
        ]:
            self.assertEqual(caught(Broken, read_row, octets, 0).at, place)
            self.assertEqual(caught(Broken, read_rows, octets).at, place)
            self.assertEqual(caught(Broken, healing, octets).at, place)
            ahead = write_row(("a", 1))
            self.assertEqual(caught(Broken, read_rows, ahead + octets).at, place + len(ahead))
            self.assertEqual(caught(Broken, healing, ahead + octets).at, place + len(ahead))
        for octets in [(), (4,), (4, 1), (4, 2, 15), (4, 1, 1), (4, 1, 1, 3), (4, 1, 2, 3, 0)]:
            self.assertEqual(caught(Broken, read_row, octets, 0).at, len(octets))

    def test_errors_come_in_their_order(self):
        for call in (read_value, read_row):
            self.assertEqual(caught(BadOctets, call, [0, 256], True).at, 1)
            self.assertEqual(caught(BadOctets, call, "ab", None).at, -1)
            for at in [*ODD, -1]:
                if not (isinstance(at, int) and not isinstance(at, bool) and at >= 0):
                    self.assertIs(caught(Refused, call, (255,), at).at, at)
            self.assertEqual(caught(Broken, call, (255,), 10 ** 40).at, 1)
        for call in (whole_value, read_rows, healing):
            self.assertEqual(caught(BadOctets, call, None).at, -1)
            self.assertEqual(caught(BadOctets, call, octets=[255, 0, False]).at, 2)


class Rows(unittest.TestCase):
    def test_cut_anywhere_those_that_are_whole_are_read(self):
        dice = chance(6)
        for turn in range(30):
            rows = [some_row(dice) for _ in range(3)]
            forms = [write_row(row) for row in rows]
            octets = sum(forms, ())
            ends = [len(sum(forms[:many], ())) for many in range(4)]
            for at in range(min(len(octets), 300) + 1):
                many = sum(end <= at for end in ends) - 1
                self.assertEqual(read_rows(octets[:at]), (tupled(rows[:many]), ends[many]))

    def test_nothing_and_whole_rows(self):
        self.assertEqual(read_rows(()), ((), 0))
        self.assertEqual(healing([]), ())
        self.assertEqual(healing(write_row(("a", 1)) + write_row(("b",))), ())

    def test_whatever_was_done_to_them(self):
        dice = chance(7)
        for turn in range(3000):
            octets = list(write_row(some_row(dice)) + write_row(("k", 1)))[:40]
            at = dice.randrange(len(octets))
            octets[at:at + dice.randrange(2)] = [dice.choice((0, 1, 2, 3, 4, 5, 38, 39, 200, 201, 255))] * dice.randrange(3)
            word, place = fate(octets, True)
            if word == "broken":
                self.assertEqual(caught(Broken, read_rows, octets).at, place)
                self.assertEqual(caught(Broken, healing, octets).at, place)
            else:
                rows, behind = read_rows(octets)
                self.assertEqual(sum(map(write_row, rows), ()), tuple(octets[:behind]))
                self.assertEqual(word == "whole", behind == len(octets))
                healed = tuple(octets) + healing(octets)
                self.assertEqual(read_rows(healed)[1], len(healed))
                self.assertEqual(word == "whole", healed == tuple(octets))

    def test_healing_is_the_fewest_octets_and_of_these_the_least(self):
        octets = write_row(("a", 70000, -5, "b", (None, "c")))
        cuts = [octets[:at] for at in range(len(octets) + 1)]
        cuts += [(4, 1, 2, 3, 0, 1, 2), (4, 1, 1, 3, 1, 2, 9), (4, 1, 1, 3, 1), (4, 1, 2, 3, 0, 4, 1, 2, 0), (4, 1, 2, 3, 0, 4)]
        tried = 0
        for cut in cuts:
            told = healing(cut)
            if len(told) < 3:
                tried += 1
                self.assertEqual(told, plain_healing(cut, 2), cut)
        self.assertGreater(tried, 15)

    def test_healing_told_by_hand(self):
        for octets, told in [
            ((4,), (1, 1, 3, 0)), ((4, 1), (1, 3, 0)), ((4, 1, 3), (3, 0, 0, 0)), ((4, 2), (1, 0, 3, 0) + (0,) * 255),
            ((4, 2, 3), (0, 3, 0) + (0,) * 767), ((4, 1, 1, 3), (0,)), ((4, 1, 1, 3, 1), (1, 0)), ((4, 1, 1, 3, 2), (1, 0) + (0,) * 256),
            ((4, 1, 2, 3, 0, 1), (0,)), ((4, 1, 2, 3, 0, 1, 3), (1, 0, 0)), ((4, 1, 2, 3, 0, 2, 2, 7), (0,)),
            ((4, 1, 2, 3, 0, 4), (0,)), ((4, 1, 3, 3, 0, 4, 1), (1, 0, 0)), ((4, 2, 15, 255, 3, 0), (0,) * 4094),
            ((4, 1, 2, 3, 0) + (4, 1, 1) * 39, (0,)),
        ]:
            self.assertEqual(healing(octets), told)
            self.assertEqual(healing(list(write_row(("w",)) + octets)), told)

    def test_many_octets_soon(self):
        octets = ()
        while len(octets) < 19000:
            octets += write_row(("row", 10 ** 30, "a" * 300, ((None, 1), deep(30))))
        rows, behind = read_rows(octets[:-1])
        self.assertEqual(sum(map(write_row, rows), ()), octets[:behind])
        self.assertEqual(whole_value(write_value(rows[:30])), rows[:30])
        flat = (4, 2, 15, 255, 3, 0) + (1, 3, 9, 9, 9) * 3990
        self.assertEqual(healing(flat), (0,) * 104)

    def test_arguments_are_left_alone(self):
        octets = list(write_row(("a", [1, [2]])))
        was = list(octets)
        read_value(octets, 0), read_row(octets, 0), read_rows(octets), whole_value(octets), healing(octets[:-1])
        self.assertEqual(octets, was)
        thing = ["a", [1, [2]]]
        write_value(thing), write_row(thing), value_length(thing), is_value(thing), is_row(thing)
        self.assertEqual(thing, ["a", [1, [2]]])


if __name__ == "__main__":
    unittest.main()
