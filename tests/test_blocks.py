"""Point [38]: shapes, and the octets and pieces of blocks."""

import unittest

from plain import ODD, all_tuples, caught, chance, deep, own_asks, own_pieces, same, some_octets, some_shape, soon, with_part
from wrecktold.blocks import block_octets, block_told, data_room, need_shape, slot_blocks
from wrecktold.errors import BadOctets, Broken, Refused
from wrecktold.forms import write_value

SHAPE = (3, 2, 4, 1, 12)
NO_SHAPE = [
    *ODD, SHAPE[:4], (*SHAPE, 1), (1, 1, 4, 1, 12), (9, 2, 4, 1, 12), (3, 0, 4, 1, 12), (3, 3, 4, 1, 12), (3, 2, 1, 1, 12),
    (3, 2, 65, 1, 12), (3, 2, 4, 0, 12), (3, 2, 4, 4, 12), (3, 2, 4, 1, 0), (3, 2, 4, 1, 201), "abcde", {at: 1 for at in range(5)},
]
NO_ASKS = [
    *(part for part in ODD if part not in ([], ())), (0, 0, 1), [(0, 0)], [(0, 0, 1, 2)], [(0, 1, 0)], [(0, 0, 1), (0, 2, 3)],
    [(True, 0, 1)], [(0, False, 1)], [(0, 0, True)], [(-1, 0, 1)], [(0, -1, 1)], [(None, 0, 1)], [(0, 0, None)], ["abc"], [(0, 0, "1")],
    [(0, 0, 1), None], {(0, 0, 1): 1},
]


def calls_with(shape):
    """Each function with a shape, all else being wrong."""
    return [(block_octets, (shape, None, None)), (data_room, (shape, None)), (block_told, (shape, None)), (slot_blocks, (shape, 0))]


def some_asks(dice, most=3):
    told = []
    for name in dice.sample(range(9), dice.randint(0, most)):
        first = dice.choice((0, 1, 300, 10 ** 9 - 9))
        told.append((name, first, first + dice.randint(0, 8)))
    return tuple(told)


class Shapes(unittest.TestCase):
    def test_shapes_at_their_bounds(self):
        for shape in [(2, 1, 2, 1, 1), (8, 7, 64, 63, 200), (8, 1, 64, 1, 1), (2, 1, 3, 2, 200), SHAPE]:
            self.assertEqual(need_shape(list(shape)), shape)
            self.assertIs(need_shape(value=shape).__class__, tuple)

    def test_one_beyond_and_any_value(self):
        for bad in NO_SHAPE:
            self.assertIs(caught(Refused, need_shape, bad).at, bad)
            for call, args in calls_with(bad):
                self.assertIs(caught(Refused, call, *args).at, bad)
        for at in range(5):
            for part in ODD:
                bad = with_part(SHAPE, at, part)
                self.assertIs(caught(Refused, need_shape, bad).at, bad)


class Octets(unittest.TestCase):
    def test_the_octets_of_a_block(self):
        dice = chance(101)
        for turn in range(300):
            asks = some_asks(dice)
            form = own_asks(asks)
            self.assertEqual(form, write_value(asks))
            need, cells = dice.randint(1, 3), dice.randint(1, 30)
            shape = (4, need, 3, 1, cells)
            room = need * cells - len(form)
            told = data_room(shape=shape, asks=[list(ask) for ask in asks])
            self.assertEqual(told, room if room >= 0 else None)
            if room < 0:
                self.assertIs(caught(Refused, block_octets, shape, asks, None).at, asks)
                continue
            for many in (0, room, dice.randint(0, room)):
                data = tuple(dice.randrange(256) for _ in range(many))
                octets = block_octets(shape=shape, asks=list(asks), data=list(data))
                self.assertEqual(octets, form + data)
                self.assertTrue(all_tuples(octets))
                self.assertEqual(block_told(shape=shape, octets=list(octets)), (asks, data))
                self.assertTrue(all_tuples(block_told(shape, octets)))
            data = (7,) * (room + 1)
            self.assertIs(caught(Refused, block_octets, shape, asks, data).at, data)
        self.assertEqual((block_octets(SHAPE, (), ()), data_room(SHAPE, ((0, 0, 1),))), ((4, 0), 11))

    def test_asks_at_the_edges(self):
        names = tuple((name, 0, 10 ** 9) for name in range(2))
        form = own_asks(names)
        shape = (2, 1, 2, 1, len(form))
        self.assertEqual((data_room(shape, names), block_octets(shape, names, ())), (0, form))
        for data in [(0,), (1, 2)]:
            self.assertIs(caught(Refused, block_octets, shape, names, data).at, data)
        shape = (2, 1, 2, 1, len(form) - 1)
        self.assertIsNone(data_room(shape, names))
        self.assertIs(caught(Refused, block_octets, shape, names, ()).at, names)
        self.assertIsNone(data_room((2, 1, 2, 1, 1), ()))
        self.assertEqual(data_room((2, 1, 2, 1, 2), ()), 0)

    def test_asks_that_have_no_form(self):
        for asks in [tuple((name, 0, 0) for name in range(4096)), ((0, 0, 256 ** 200),)]:
            self.assertIsNone(data_room(SHAPE, asks))
            self.assertIs(caught(Refused, block_octets, SHAPE, asks, ()).at, asks)

    def test_what_is_refused(self):
        for bad in NO_ASKS:
            self.assertIs(caught(Refused, data_room, SHAPE, bad).at, bad)
            self.assertIs(caught(Refused, block_octets, SHAPE, bad, None).at, bad)
        for bad in [*ODD, (0, 256), [-1], (0, True), (None,), "ab", (0,) * 23, (0,) * 400]:
            if not same(bad, []) and not same(bad, ()) and bad not in ([0], (0, 0), (1, 2, 3, 4, 5, 6, 7, 8)):
                self.assertIs(caught(Refused, block_octets, SHAPE, (), bad).at, bad)
        long = tuple((name, 0, 1) for name in range(9))
        self.assertIs(caught(Refused, block_octets, SHAPE, long, None).at, long)

    def test_what_is_no_block(self):
        wrong = [
            (), (4,), (4, 1, 1), (0,), (5,), (1, 0), (3, 0), write_value((0, 0, 1)), write_value(((0, 0),)), write_value(((0, 1, 0),)),
            write_value(((0, 0, 1), (0, 2, 3))), write_value(((-1, 0, 1),)), write_value(((0, 0, "a"),)), write_value((None,)),
            own_asks(((0, 0, 1),))[:-1], own_asks(()) + (0,) * 23, (9,) * 25, (4, 0) + (0,) * 20000, write_value(deep(20)),
        ]
        for octets in wrong:
            self.assertEqual(caught(Broken, block_told, SHAPE, octets).at, 0, octets)
        self.assertEqual(block_told(SHAPE, own_asks(()) + (0,) * 22), ((), (0,) * 22))
        for bad in ODD:
            if not isinstance(bad, (list, tuple)):
                self.assertEqual(caught(BadOctets, block_told, SHAPE, bad).at, -1)
            self.assertEqual(caught(BadOctets, block_told, SHAPE, (9, bad, 256)).at, 1)
        self.assertEqual(caught(BadOctets, block_told, SHAPE, (0,) * 30 + (256,)).at, 30)

    def test_octets_by_chance(self):
        dice = chance(102)
        blocks = 0
        for turn in range(3000):
            octets = list(own_asks(some_asks(dice, 2)) + some_octets(dice, 3))
            if dice.random() < 0.7:
                octets[dice.randrange(len(octets))] = dice.choice((0, 1, 2, 3, 4, dice.randrange(256)))
            octets = octets[:dice.randint(0, 24)]
            try:
                asks, data = block_told(SHAPE, octets)
            except Broken as error:
                self.assertEqual(error.at, 0)
                continue
            blocks += 1
            self.assertEqual(own_asks(asks) + data, tuple(octets))
            self.assertEqual(block_octets(SHAPE, asks, data), tuple(octets))
        self.assertTrue(500 < blocks < 2500, blocks)


class Slots(unittest.TestCase):
    def test_pieces_of_some_numbers(self):
        dice = chance(103)
        several = 0
        for turn in range(700):
            shape = some_shape(dice, 8, 3, 4)
            chips, need, _, _, cells = shape
            numbers = dice.sample((0, 1, 2, 77, 10 ** 9 - 1), dice.randint(1, 3))
            octets = {number: some_octets(dice, need * cells) for number in numbers}
            whole = {number: own_pieces(chips, need, cells, octets[number]) for number in numbers}
            pieces = []
            for chip in range(chips):
                number = dice.choice(numbers)
                pieces.append(dice.choice((None, "torn")) if dice.random() < 0.15 else (number, whole[number][chip]))
            bent = set()
            if dice.random() < 0.3:
                chip = dice.randrange(chips)
                if pieces[chip] not in (None, "torn"):
                    number, line = pieces[chip]
                    pieces[chip] = (number, tuple(with_part(line, 0, (line[0] + 1) % 257)))
                    bent.add(number)
            told = slot_blocks(shape=shape, pieces=[list(piece) if isinstance(piece, tuple) else piece for piece in pieces])
            self.assertEqual(told, slot_blocks(shape, tuple(pieces)))
            self.assertTrue(all_tuples(told))
            many = {number: sum(isinstance(piece, tuple) and piece[0] == number for piece in pieces) for number in numbers}
            right = tuple((number, octets[number]) for number in sorted(numbers) if many[number] >= need and number not in bent)
            self.assertEqual(tuple(part for part in told if part[0] not in bent), right)
            # With no piece more than needed, others may tell other octets, or none.
            for number in bent:
                if many[number] > need or many[number] < need:
                    self.assertNotIn(number, [part[0] for part in told])
            several += len(told) > 1
        self.assertGreater(several, 50)

    def test_pieces_that_tell_no_octets(self):
        shape = (3, 2, 4, 1, 2)
        self.assertEqual(slot_blocks(shape, ((5, (1, 2)), (5, (3, 4)), None)), ((5, (1, 3, 2, 4)),))
        self.assertEqual(slot_blocks(shape, ((5, (256, 256)), (5, (256, 256)), "torn")), ((5, ()),))
        self.assertEqual(slot_blocks(shape, ((5, (256, 2)), (5, (3, 4)), None)), ())
        self.assertEqual(slot_blocks(shape, ((5, (1, 2)), (5, (256, 4)), None)), ())
        self.assertEqual(slot_blocks(shape, ((5, (1, 2)), (5, (3, 4)), (5, (5, 6)))), ((5, (1, 3, 2, 4)),))
        self.assertEqual(slot_blocks(shape, ((5, (1, 2)), (5, (3, 4)), (5, (5, 7)))), ())
        self.assertEqual(slot_blocks(shape, ((5, (1, 2)), (6, (3, 4)), "torn")), ())
        self.assertEqual(slot_blocks(shape, (None, None, None)), ())
        # They need not be a block's.
        self.assertEqual(slot_blocks(shape, ("torn", (0, (9, 256)), (0, (9, 256)))), ((0, (9, 9)),))

    def test_what_is_refused(self):
        right = ((5, (1, 2)), (5, (3, 4)), None)
        shape = (3, 2, 4, 1, 2)
        for bad in [*ODD, right[:2], right + (None,), "abc", {0: None, 1: None, 2: None}]:
            self.assertIs(caught(Refused, slot_blocks, shape, bad).at, bad)
        parts = [
            *(part for part in ODD if part is not None), "TORN", (5,), (5, (1, 2), 3), (5, (1,)), (5, (1, 2, 3)), (-1, (1, 2)),
            (10 ** 9, (1, 2)), (True, (1, 2)), (5, (1, 257)), (5, (1, -1)), (5, (1, True)), (5, (1, None)), (5, "ab"), ("5", (1, 2)),
        ]
        for part in parts:
            for at in range(3):
                bad = with_part(right, at, part)
                self.assertIs(caught(Refused, slot_blocks, shape, bad).at, bad)

    def test_the_greatest_shape(self):
        dice = chance(104)
        for need in (1, 4, 7):
            shape = (8, need, 64, 63, 200)
            data = tuple(dice.randrange(256) for _ in range(data_room(shape, ())))
            octets = soon(self, 1, block_octets, shape, (), data)
            self.assertEqual(len(octets), 200 * need)
            pieces = [(10 ** 9 - 1, line) for line in own_pieces(8, need, 200, octets)]
            self.assertEqual(soon(self, 1, slot_blocks, shape, pieces), ((10 ** 9 - 1, octets),))
            self.assertEqual(soon(self, 1, slot_blocks, shape, [None] * (8 - need) + pieces[8 - need:]), ((10 ** 9 - 1, octets),))
            self.assertEqual(soon(self, 1, block_told, shape, octets), ((), data))


if __name__ == "__main__":
    unittest.main()
