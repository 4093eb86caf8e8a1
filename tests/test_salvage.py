"""Points [41] to [43]: what memories tell, beside the test's own look at their pieces."""

import itertools
import unittest

from plain import (
    ODD, all_tuples, caught, cell_at, chance, own_asks, own_needed, own_pieces, same, some_octets, some_shape, soon, with_part,
)
from test_blocks import NO_SHAPE
from test_recorder import Flight, some_deed, wide_shape
from wrecktold.chips import Chips
from wrecktold.errors import NoBlock, Refused
from wrecktold.recorder import open_recorder
from wrecktold.salvage import asks_of, data_of, holes, lost_chips, salvage, short_blocks, told_blocks, torn_places

CALLS = (salvage, short_blocks, torn_places, lost_chips, told_blocks, asks_of, holes)


def as_lists(memory):
    return [
        None if row is None else [[part[0], list(part[1])] if isinstance(part, tuple) else part for part in row] for row in memory
    ]


def own_octets(shape, parts):
    """The octets that pieces of one number, by chip, tell, by the test's own polynomial; `None` if they tell none."""
    chips, need, _, _, cells = shape
    if len(parts) < need:
        return None
    flat = []
    for at in range(cells):
        points = [(chip, line[at]) for chip, line in sorted(parts.items())]
        if any(cell_at(points[:need], chip) != cell for chip, cell in points):
            return None
        flat += [cell_at(points[:need], chip) for chip in range(need)]
    octets = flat[:flat.index(256)] if 256 in flat else flat
    return tuple(octets) if flat[len(octets):] == [256] * (len(flat) - len(octets)) else None


def own_salvage(shape, memory):
    """(salvage, short_blocks, torn_places, lost_chips) by a plain look at each slot."""
    whole, short, torn = [], [], []
    for slot in range(shape[2]):
        numbers = {}
        for chip, row in enumerate(memory):
            part = None if row is None else row[slot]
            if part == "torn":
                torn.append((slot, chip))
            elif part is not None:
                numbers.setdefault(part[0], {})[chip] = part[1]
        for number, parts in numbers.items():
            octets = own_octets(shape, parts)
            if octets is None:
                short.append((number, slot, len(parts)))
            else:
                whole.append((number, slot, octets))
    return sorted(whole), sorted(short), sorted(torn), [chip for chip, row in enumerate(memory) if row is None]


def hurt(dice, memory):
    """A memory of which some pieces are torn or gone, or chips lost."""
    told = [None if row is None else list(row) for row in memory]
    for chip, row in enumerate(told):
        if row is not None and dice.random() < 0.12:
            told[chip] = None
        elif row is not None:
            for slot in range(len(row)):
                if dice.random() < 0.12:
                    row[slot] = dice.choice((None, "torn"))
    return tuple(None if row is None else tuple(row) for row in told)


class Salvage(unittest.TestCase):
    def test_the_example(self):
        chips, shape = Chips(3, 4), (3, 2, 4, 1, 12)
        recorder = open_recorder(chips, shape)
        self.assertEqual((recorder.hear((1, 2)), recorder.ask(1, 1)), (0, (0, 0, 1)))
        self.assertEqual([recorder.hear((many,)) for many in (3, 4, 5)], [2, 3, 4])
        memory = (chips.memory()[0], None, (None, "torn") + chips.memory()[2][2:])
        self.assertEqual(told_blocks(shape, memory), ((3, ((0, 0, 1),), (4,)), (4, ((0, 0, 1),), (5,))))
        self.assertEqual(short_blocks(shape, memory), ((0, 0, 1), (1, 1, 1)))
        self.assertEqual((torn_places(shape, memory), asks_of(shape, memory)), (((1, 2),), ((0, 0, 1),)))
        self.assertEqual((data_of(shape, memory, 4), holes(shape, chips.memory())), ((5,), ((2, 2),)))
        self.assertEqual(salvage(shape, (None, None, None)), ())

    def look(self, shape, memory):
        """Looks at all that is told of a memory; the numbers that are told."""
        whole, short, torn, lost = own_salvage(shape, memory)
        lists = as_lists(memory)
        for passed in (memory, lists):
            self.assertEqual(salvage(shape=shape, memory=passed), tuple(whole))
            self.assertEqual(short_blocks(shape=shape, memory=passed), tuple(short))
            self.assertEqual(torn_places(shape=shape, memory=passed), tuple(torn))
            self.assertEqual(lost_chips(shape=list(shape), memory=passed), tuple(lost))
        self.assertEqual(lists, as_lists(memory))
        for call in CALLS:
            self.assertTrue(all_tuples(call(shape, lists)))
            self.assertEqual(call(list(shape), lists), call(shape, memory))
        numbers = [number for number, _, _ in whole]
        lack = sorted(set(range(min(numbers, default=0), max(numbers, default=0))) - set(numbers))
        told = holes(shape, memory)
        self.assertEqual([number for first, end in told for number in range(first, end + 1)], lack)
        self.assertTrue(all(one[1] + 1 < other[0] for one, other in zip(told, told[1:])))
        return numbers

    def test_memories_of_a_recorder(self):
        dice = chance(121)
        for turn in range(60):
            flight = Flight(self, wide_shape(dice))
            for step in range(dice.randint(0, 12)):
                flight.lead(some_deed(dice, flight))
                if dice.random() < 0.1:
                    flight.lose_one(dice)
            memory = flight.chips.memory()
            self.look(flight.shape, memory)
            self.blocks(flight, memory)
            for again in range(4):
                less = hurt(dice, memory)
                self.look(flight.shape, less)
                self.blocks(flight, less)
                self.assertLessEqual(set(told_blocks(flight.shape, less)), set(told_blocks(flight.shape, memory)))

    def blocks(self, flight, memory):
        """Looks whether just the blocks of the book are told of which enough pieces are there."""
        shape = flight.shape
        whole = [number for number, _, _ in salvage(shape, memory)]
        told = tuple((number, *flight.book[number]) for number in whole)
        self.assertEqual(told_blocks(shape=shape, memory=memory), told)
        self.assertEqual(asks_of(shape=shape, memory=memory), told[-1][1] if told else ())
        many = {}
        for row in memory:
            for part in row or ():
                if isinstance(part, tuple):
                    many[part[0]] = many.get(part[0], 0) + 1
        self.assertEqual(whole, sorted(number for number, pieces in many.items() if pieces >= shape[1]))
        for number in range(flight.number + 2):
            if number in whole:
                self.assertEqual(data_of(shape=shape, memory=memory, number=number), flight.book[number][1])
            else:
                self.assertEqual(caught(NoBlock, data_of, shape, memory, number).value, number)

    def test_all_that_is_to_be_kept_is_told_and_the_newest_one(self):
        dice = chance(122)
        for turn in range(40):
            flight = Flight(self, wide_shape(dice))
            for step in range(12):
                flight.lead(some_deed(dice, flight))
                numbers = [number for number, _, _ in told_blocks(flight.shape, flight.chips.memory())]
                self.assertLessEqual(set(own_needed(flight.number, flight.shape[3], list(flight.asks.values()))), set(numbers))
                self.assertIn(flight.number - 1, [*numbers, -1])
                self.assertEqual(asks_of(flight.shape, flight.chips.memory()), flight.told_asks(flight.asks))
                if dice.random() < 0.2:
                    flight.lose_one(dice)

    def test_memories_put_together(self):
        dice = chance(123)
        blocks = 0
        for turn in range(250):
            shape = some_shape(dice, 6, 5, 4)
            chips, need, slots, _, cells = shape
            memory = [[None] * slots for _ in range(chips)]
            for slot in range(slots):
                for number in dice.sample(range(10 * slot, 10 * slot + 10), dice.randint(0, 2)):
                    octets = dice.choice((some_octets(dice, need * cells), ((4, 0) + some_octets(dice, need * cells))[:need * cells]))
                    for chip, line in enumerate(own_pieces(chips, need, cells, octets)):
                        if dice.random() < 0.7:
                            bent = tuple(with_part(line, 0, dice.randrange(257))) if dice.random() < 0.05 else line
                            memory[chip][slot] = (number, bent)
                        elif dice.random() < 0.2:
                            memory[chip][slot] = "torn"
            memory = tuple(None if dice.random() < 0.1 else tuple(row) for row in memory)
            self.look(shape, memory)
            told = told_blocks(shape, memory)
            for number, slot, octets in salvage(shape, memory):
                if octets[:2] == (4, 0):
                    self.assertIn((number, (), octets[2:]), told)
            right = {number: octets for number, _, octets in salvage(shape, memory)}
            for number, asks, data in told:
                blocks += 1
                self.assertEqual(own_asks(asks) + data, right[number])
                self.assertEqual(data_of(shape, memory, number), data)
        self.assertGreater(blocks, 100)

    def test_octets_that_are_no_blocks(self):
        shape = (2, 1, 3, 1, 6)
        lay = [(9,), (4, 0, 7), ()]
        row = tuple((number, own_pieces(2, 1, 6, octets)[0]) for number, octets in zip((3, 5, 8), lay))
        memory = (row, (None, None, None))
        self.assertEqual(salvage(shape, memory), ((3, 0, (9,)), (5, 1, (4, 0, 7)), (8, 2, ())))
        self.assertEqual((told_blocks(shape, memory), asks_of(shape, memory)), (((5, (), (7,)),), ()))
        self.assertEqual((holes(shape, memory), short_blocks(shape, memory)), (((4, 4), (6, 7)), ()))
        for number in (3, 8):
            self.assertEqual(caught(NoBlock, data_of, shape, memory, number).value, number)

    def test_of_fewer_pieces_nothing_is_known(self):
        dice = chance(124)
        for turn in range(100):
            chips = dice.randint(2, 8)
            need = dice.randint(2, max(2, chips - 1))
            if need >= chips:
                continue
            few = dice.sample(range(chips), dice.randint(1, need - 1))
            more = [chip for chip in range(chips) if chip not in few][:need - len(few)]
            line = {chip: dice.randrange(257) for chip in few}
            for again in range(3):
                points = list({**line, **{chip: dice.randrange(257) for chip in more}}.items())
                cells = [cell_at(points, chip) for chip in range(need)]
                self.assertEqual([cell_at(list(enumerate(cells)), chip) for chip, _ in points], [cell for _, cell in points])
            memory = [[(5, (line[chip],))] + [None] if chip in line else [None, None] for chip in range(chips)]
            shape = (chips, need, 2, 1, 1)
            self.assertEqual((salvage(shape, memory), short_blocks(shape, memory)), ((), ((5, 0, len(few)),)))

    def test_a_memory_with_nothing_in_it(self):
        shape = (3, 2, 4, 1, 12)
        for memory in [(None,) * 3, ((None,) * 4,) * 3, [None, [None] * 4, (None,) * 4]]:
            for call in CALLS:
                lost = call == lost_chips
                self.assertEqual(call(shape, memory), tuple(at for at in range(3) if memory[at] is None) if lost else ())
            for value in [*ODD, 0]:
                self.assertIs(caught(NoBlock, data_of, shape, memory, value).value, value)
        self.assertEqual(torn_places(shape, (("torn",) * 4, None, (None, "torn", None, None))), ((0, 0), (1, 0), (1, 2), (2, 0), (3, 0)))


class Wrong(unittest.TestCase):
    def test_shapes(self):
        for bad in NO_SHAPE:
            for call in CALLS:
                self.assertIs(caught(Refused, call, bad, None).at, bad)
            self.assertIs(caught(Refused, data_of, bad, None, None).at, bad)

    def test_memories_bent_at_a_chip_a_slot_a_piece(self):
        shape = (3, 2, 3, 1, 2)
        piece = (5, (1, 256))
        row = (None, "torn", piece)
        memory = (row, None, row)
        for call in CALLS:
            call(shape, memory)
        lots = [*ODD, memory[:2], memory + (None,), "abc", {at: None for at in range(3)}]
        for part in [*ODD, row[:2], row + (None,), "torn", "abc", {at: None for at in range(3)}, piece]:
            if part is not None:
                lots += [with_part(memory, at, part) for at in range(3)]
        pieces = [
            *(part for part in ODD if part is not None), "TORN", (5,), (5, (1, 2), 3), (5, (1,)), (5, (1, 2, 3)), (-1, (1, 2)),
            (10 ** 9, (1, 2)), (True, (1, 2)), (5, (1, 257)), (5, (1, -1)), (5, (1, True)), (5, (None, 1)), (5, "ab"), (5, None),
        ]
        lots += [with_part(memory, 2, with_part(row, at, part)) for at in range(3) for part in pieces]
        for bad in lots:
            for call in CALLS:
                self.assertIs(caught(Refused, call, shape, bad).at, bad)
            self.assertIs(caught(Refused, data_of, shape, bad, None).at, bad)

    def test_numbers_that_are_not_told(self):
        chips, shape = Chips(2, 3), (2, 1, 3, 1, 9)
        recorder = open_recorder(chips, shape)
        recorder.hear((7,))
        recorder.hear((8,))
        for value in [*ODD, 2, -1]:
            self.assertIs(caught(NoBlock, data_of, shape, chips.memory(), value).value, value)
        self.assertEqual([data_of(shape, chips.memory(), number) for number in (0, 1)], [(7,), (8,)])
        self.assertTrue(same(told_blocks(shape, chips.memory()), ((0, (), (7,)), (1, (), (8,)))))


class Limits(unittest.TestCase):
    def test_the_greatest_shape(self):
        dice = chance(125)
        for need in (1, 4, 7):
            shape = (8, need, 64, 30, 200)
            chips = Chips(8, 64)
            recorder = open_recorder(chips, shape)
            for turn in range(70):
                recorder.hear(tuple(dice.randrange(256) for _ in range(recorder.room())))
            for lost in itertools.islice((7, 0, 3, 5), 8 - need):
                chips.lose(lost)
            memory = chips.memory()
            for call in CALLS:
                soon(self, 1, call, shape, memory)
            self.assertEqual([number for number, _, _ in told_blocks(shape, memory)], list(range(6, 70)))
            self.assertEqual(len(soon(self, 1, data_of, shape, memory, 69)), 200 * need - 2)


if __name__ == "__main__":
    unittest.main()
