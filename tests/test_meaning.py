"""Points [67], [68]: what a wreck tells, of blocks that the test lays itself."""

import unittest

from plain import ODD, all_tuples, caught, chance, flight, own_asks, own_pieces, soon, some_octets, some_setup, with_part
from plain_courses import bent_rows, own_numbers, stretch_of, table_of
from test_blocks import NO_SHAPE
from test_order import own_word
from test_packing import own_form
from wrecktold.courses import quarrel
from wrecktold.errors import BadSetup, NoHappening, Quarrel, Refused
from wrecktold.meaning import meaning, unread, wreck_order, wreck_rows, wreck_stretch

SETUP = (((2, 3, 0, 1, 1, 9), (1, 2, 0, 0, 2, 9)), (1, 1), ((0, 5), (1, None)))
SHAPE = (3, 2, 6, 2, 30)
ROWS = ((0, 4, 0, 0, 7, 1, ((0, 10),)), (0, 6, 1, 0, 0, 3, ((1, 1),)), (0, 8, 0, 0, 8, 3, ((0, 25),)))
CALLS = [(wreck_rows, ()), (unread, ()), (meaning, ()), (wreck_stretch, (None, None)), (wreck_order, (None, None))]
NO_HAPPENINGS = [*ODD, ("sent",), ("sent", 3), ("heard", -1), ("sent", True), ("Sent", 0), (0, "sent"), ("sent", 0, 0), ("sent", 10 ** 40)]


def memory_of(shape, blocks):
    """The memory in which (number, octets) lie slot by slot."""
    chips, need, slots, _, cells = shape
    lines = [own_pieces(chips, need, cells, octets) for _, octets in blocks]
    rows = [[(number, line[chip]) for (number, _), line in zip(blocks, lines)] for chip in range(chips)]
    return tuple(tuple(row + [None] * (slots - len(row))) for row in rows)


def block(setup, number, row, asks=()):
    """A block with a row as its data, or with octets."""
    data = own_form(setup, row) if row and len(row) == 7 and isinstance(row[6], tuple) else tuple(row)
    return number, own_asks(asks) + data


class Wrecks(unittest.TestCase):
    def test_rows_and_what_is_none(self):
        asks = ((2, 0, 9),)
        form = own_form(SETUP, ROWS[1])
        blocks = [
            block(SETUP, 9, ROWS[2], asks), block(SETUP, 3, ROWS[0]), block(SETUP, 5, (), asks), block(SETUP, 7, (1, 2, 3)),
            block(SETUP, 8, form + (0, 0)), (11, (3, 1, 1)),
        ]
        memory = memory_of(SHAPE, blocks)
        self.assertEqual(wreck_rows(setup=SETUP, shape=SHAPE, memory=memory), ((3, ROWS[0]), (8, ROWS[1]), (9, ROWS[2])))
        self.assertEqual(unread(setup=SETUP, shape=SHAPE, memory=memory), (7,))
        self.assertEqual(meaning(setup=SETUP, shape=SHAPE, memory=memory), ("told", (3, 8, 9), ROWS, asks))
        self.assertEqual(wreck_stretch(setup=SETUP, shape=SHAPE, memory=memory, one=("sent", 3), other=["sent", 9]), (4, 5))
        self.assertEqual(wreck_order(setup=SETUP, shape=SHAPE, memory=memory, one=("sent", 3), other=["sent", 8]), "ahead")
        for number in (0, 1, 2, 5, 7, 11):
            value = ("sent", number)
            self.assertIs(caught(NoHappening, wreck_stretch, SETUP, SHAPE, memory, value, None).value, value)
        self.assertTrue(all_tuples((wreck_rows(SETUP, SHAPE, memory), unread(SETUP, SHAPE, memory), meaning(SETUP, SHAPE, memory))))
        lists = [list(map(list, row)) if row else row for row in with_part(memory, 1, None)]
        self.assertEqual(meaning([list(part) for part in SETUP], list(SHAPE), lists), ("told", (3, 8, 9), ROWS, asks))

    def test_data_that_tells_no_row(self):
        form = own_form(SETUP, ROWS[0])
        bad_ones = [form[:-1], form + (1,), (0,), with_part(form, 4, 2), form + (0, 0, 1), with_part(form, 7, 16), form + form]
        memory = memory_of(SHAPE, [block(SETUP, at, data) for at, data in enumerate(bad_ones[:6])])
        self.assertEqual((wreck_rows(SETUP, SHAPE, memory), unread(SETUP, SHAPE, memory)), ((), (0, 1, 2, 3, 4, 5)))
        self.assertEqual(meaning(SETUP, SHAPE, memory), ("told", (), (), ()))
        memory = memory_of(SHAPE, [block(SETUP, 4, bad_ones[6]), block(SETUP, 5, form + (0,) * 9)])
        self.assertEqual((wreck_rows(SETUP, SHAPE, memory), unread(SETUP, SHAPE, memory)), (((5, ROWS[0]),), (4,)))

    def test_octets_that_are_no_block(self):
        memory = memory_of(SHAPE, [(0, (0,)), (1, (4, 1, 1, 3, 1, 1)), block(SETUP, 2, ROWS[0], ((1, 2, 3),))])
        self.assertEqual((wreck_rows(SETUP, SHAPE, memory), unread(SETUP, SHAPE, memory)), (((2, ROWS[0]),), ()))
        self.assertEqual(meaning(SETUP, SHAPE, memory)[3], ((1, 2, 3),))

    def test_nothing_at_all(self):
        for memory in [(None, None, None), memory_of(SHAPE, [])]:
            self.assertEqual(meaning(SETUP, SHAPE, memory), ("told", (), (), ()))
            self.assertEqual((wreck_rows(SETUP, SHAPE, memory), unread(SETUP, SHAPE, memory)), ((), ()))
            self.assertEqual(caught(NoHappening, wreck_order, SETUP, SHAPE, memory, ("sent", 0), None).value, ("sent", 0))

    def test_rows_that_cannot_stand_behind_those_ahead(self):
        seen = {}
        for numbers, lots, at in [
            ((3, 4, 5), (1, 0, 2), 4), ((3, 4, 5), (0, 2, 1), 5), ((0, 7, 9), (0, 0, 2), 7), ((0, 7, 9), (0, 1, 1), 9), ((1, 2, 3), (2, 1, 0), 2),
        ]:
            memory = memory_of(SHAPE, [block(SETUP, number, ROWS[lot]) for number, lot in list(zip(numbers, lots))[::-1]])
            paper = ("rows", at)
            self.assertEqual(meaning(SETUP, SHAPE, memory), ("quarrel", paper))
            for call in (wreck_stretch, wreck_order):
                self.assertEqual(caught(Quarrel, call, SETUP, SHAPE, memory, None, None).paper, paper)
            self.assertEqual(wreck_rows(SETUP, SHAPE, memory), tuple((number, ROWS[lot]) for number, lot in zip(numbers, lots)))
            seen[paper] = True
        self.assertEqual(len(seen), 5)

    def test_more_rows_than_can_stand(self):
        setup = (((1, 1, 0, 0, 1, 9),), (1, 1), ((0, None),))
        rows = [(0, at, 0, 0, at % 256, at, ()) for at in range(208)]
        lines = [own_pieces(8, 1, 20, own_asks(()) + own_form(setup, row)) for row in rows]
        memory = [[(8 * slot + chip + 3, lines[8 * slot + chip][chip]) for slot in range(26)] for chip in range(8)]
        shape = (8, 1, 26, 2, 20)
        self.assertEqual(len(wreck_rows(setup, shape, memory)), 208)
        self.assertEqual(meaning(setup, shape, memory), ("quarrel", ("rows", 203)))
        memory[7] = [None] * 26
        self.assertEqual(meaning(setup, shape, memory)[0], "told")

    def test_rows_that_quarrel(self):
        words = {}
        for seed in range(300):
            dice = chance(seed)
            setup = some_setup(dice)
            rows, _ = flight(dice, setup, 3)
            bent = bent_rows(dice, setup, rows) if 0 < len(rows) <= 8 else None
            if bent is None:
                continue
            shape = (3, 2, 8, 2, 40)
            numbers = sorted(dice.sample(range(30), len(bent)))
            blocks = [block(setup, number, row) for number, row in zip(numbers, bent)]
            dice.shuffle(blocks)
            memory = memory_of(shape, blocks)
            told = meaning(setup, shape, memory)
            paper = quarrel(setup, bent)
            if paper is None:
                self.assertEqual(told, ("told", tuple(numbers), bent, ()))
                self.look_at_times(dice, setup, shape, memory, numbers, bent)
            else:
                self.assertEqual(told, ("quarrel", paper))
                self.assertTrue(all_tuples(told))
                self.assertEqual(caught(Quarrel, wreck_order, setup, shape, memory, None, None).paper, paper)
                self.assertEqual(paper[:1] == ("numbers",), own_numbers(setup, bent) is not None)
            words[paper and paper[0]] = True
        self.assertEqual(sorted(map(str, words)), ["None", "numbers", "ring"])

    def look_at_times(self, dice, setup, shape, memory, numbers, rows):
        table = table_of(setup, rows)
        for turn in range(4):
            x, y = dice.randrange(len(table)), dice.randrange(len(table))
            one, other = [(("sent", "heard")[time % 2], numbers[time // 2]) for time in (x, y)]
            self.assertEqual(wreck_stretch(setup, shape, memory, one, other), stretch_of(table, x, y))
            self.assertEqual(wreck_order(setup, shape, memory, one, other), own_word(stretch_of(table, x, y)))


class Errors(unittest.TestCase):
    MEMORY = memory_of(SHAPE, [block(SETUP, at, row) for at, row in enumerate(ROWS)])

    def test_which_comes_first(self):
        for call, more in CALLS:
            self.assertEqual(caught(BadSetup, call, with_part(SETUP, 1, None), None, None, *more).at, 1)
            for bad in NO_SHAPE:
                self.assertIs(caught(Refused, call, SETUP, bad, None, *more).at, bad)
            for bad in [*ODD, self.MEMORY[:2], with_part(self.MEMORY, 0, self.MEMORY[0][:5]), with_part(self.MEMORY, 2, 7)]:
                self.assertIs(caught(Refused, call, SETUP, SHAPE, bad, *more).at, bad)

    def test_happenings(self):
        for call in (wreck_stretch, wreck_order):
            for bad in NO_HAPPENINGS:
                self.assertIs(caught(NoHappening, call, SETUP, SHAPE, self.MEMORY, bad, None).value, bad)
                self.assertIs(caught(NoHappening, call, SETUP, SHAPE, self.MEMORY, ("heard", 2), bad).value, bad)

    def test_thirty_rows_soon(self):
        setup = (((1, 9, 0, 0, 1, 99),), (1, 9), ((0, None),) * 16)
        shape = (8, 7, 30, 2, 20)
        rows = [(0, at, 0, 0, at, 2 * at, tuple((channel, -at) for channel in range(16))) for at in range(30)]
        memory = memory_of(shape, [block(setup, at, row) for at, row in enumerate(rows)])
        self.assertEqual(soon(self, 10, meaning, setup, shape, with_part(memory, 0, None)), ("told", tuple(range(30)), tuple(rows), ()))
        self.assertEqual(soon(self, 10, wreck_order, setup, shape, memory, ("sent", 0), ("heard", 29)), "ahead")
        octets = [some_octets(chance(at), 100) for at in range(30)]
        memory = memory_of(shape, [(at, own_asks(()) + data) for at, data in enumerate(octets)])
        self.assertEqual(len(soon(self, 10, unread, setup, shape, memory)), len([data for data in octets if data]))


if __name__ == "__main__":
    unittest.main()
