"""The examples of the document, with just the answers that stand there."""

import doctest
import pathlib
import unittest

README = pathlib.Path(__file__).resolve().parent.parent / "README.md"

EXAMPLES = '''
    >>> from wrecktold.forms import healing, read_rows, read_value, value_length, write_row, write_value
    >>> write_value([None, -3, "ab"]), value_length(256 ** 2)
    ((4, 1, 3, 0, 2, 1, 2, 3, 1, 2, 0, 1), 5)
    >>> octets = write_row(("kept", (None, 3))) + (4, 1, 2, 3)
    >>> read_value((9, 9) + octets, 2), read_rows(octets), healing(octets)
    ((('kept', (None, 3)), 19), ((('kept', (None, 3)),), 17), (0, 0))

    >>> from wrecktold.differences import implied, met, solved, span, table, thinned, within
    >>> system = (3, ((0, 1, 2), (1, 2, -1), (2, 0, 0), (0, 2, 5)))
    >>> solved(system), span(system, 0, 1), met(system, 0, 1, 3), implied(system, (0, 2, 1)), thinned(system)
    (('values', (-1, 0, -1)), (1, 2), None, True, (0, 1, 2))
    >>> table((2, ((0, 1, 4),))), within(system, (3, [(0, 2, 1)])), solved((1, ((0, 0, -1),)))
    (((0, 4), (None, 0)), True, ('ring', (0,)))
    >>> from wrecktold.edits import Bounds
    >>> some = Bounds(1)
    >>> some.grow(), some.lay((0, 1, 3)), some.lay((1, 0, -4)), some.can([(1, 0, -3)]), some.ring_with([(1, 0, -4)]), some.span(0, 1)
    (1, ('laid', 0), ('ring', ('new', 0)), True, (('new', 0), 0), (None, 3))

    >>> from wrecktold.clocks import bounds_of, course_faults, course_holds
    >>> from wrecktold.setups import check_rows, readings_of
    >>> setup = (((2, 3, 0, 1, 1, 9), (1, 2, 0, 0, 2, 9)), (1, 1), ((0, 5), (1, None)))
    >>> rows = ((0, 4, 0, 0, 7, 1, ((0, 10),)), (0, 6, 1, 0, 0, 3, ((1, 1),)), (0, 8, 0, 0, 8, 3, ((0, 25),)))
    >>> readings_of(rows, 0), bounds_of(setup, rows)[3], bounds_of(setup, rows)[6]
    (((0, 10), (2, 25)), (('clock', 0, 2), ((0, 4, 6), (4, 0, -4))), (('rate', 0, 2, 0), ((4, 0, -3),)))
    >>> course_holds(setup, rows, ((4, 4), (6, 6), (8, 8))), course_faults(setup, rows, ((3, 4), (5, 6), (6, 8)))
    (True, (('clock', 0, 2), ('way', 1, 1), ('way', 2, 2)))

    >>> from wrecktold.numbers import ahead_counts, counts, doubt_span, missing, missing_sums, run_between, run_holds
    >>> source = (1, 1, 0, 0, 2, 5)
    >>> counts(source, (250, 100), (3, 130)), counts(source, (0, 0), (0, 1500)), ahead_counts(source, (7, 600))
    ((9,), (512,), (7, 263))
    >>> doubt_span(source), run_between(source, (255, 10), (2, 20), 3), run_holds(source, [(255, 10), (0, 16)])
    (854, ((255, 10), (0, 13), (1, 16), (2, 20)), False)
    >>> setup = ([source], (1, 1), [(0, None)])
    >>> rows = [(0, 0, 0, 0, 4, 50, ()), (0, 9, 0, 0, 7, 59, ()), (0, 30, 0, 0, 7, 80, ())]
    >>> missing(setup, rows), missing_sums(setup, rows[:2], 0)
    (((0, 1, (2,)), (1, 2, ())), (2,))

    >>> from wrecktold.tents import highest, many_above, values_at
    >>> highest((0, 3, 2, 5)), values_at((0, 3, 2, 5), 2), many_above((3, 4, 2, 4), 2)
    (6, (-3, 4), (2, 5))

    >>> from wrecktold.packing import most_length, packed, row_at, row_length, row_octets, unpacked
    >>> setup = ([(1, 1, 0, 0, 2, 5), (1, 2, 0, 0, 2, 5)], (1, 1), [(0, None), (1, 3), (0, 7)])
    >>> row = (1, 300, 0, 2, 255, 70000, [(2, -1)])
    >>> row_octets(setup, row), most_length(setup), row_length(setup, (0, 0, 1, 0, 0, 0, ()))
    ((1, 0, 1, 44, 0, 2, 255, 1, 17, 112, 2, 15, 66, 63), 17, 11)
    >>> row_at(setup, (9,) + row_octets(setup, row), 1) == (unpacked(setup, packed(setup, row, 20)), 15)
    True

    >>> from wrecktold.codes import coded, fits, mended, told_data
    >>> from wrecktold.pieces import mended_pieces, octets_of, pieces_of
    >>> coded(4, 2, (5, 7)), told_data(4, 2, (None, 7, None, 11)), fits(4, 2, (5, 7, 9, 12)), mended(4, 2, (5, 7, 200, 11))
    ((5, 7, 9, 11), (5, 7), False, ((5, 7), (2,)))
    >>> pieces_of(3, 2, 2, (1, 2, 3)), octets_of(3, 2, 2, [None, (2, 256), (3, 252)])
    (((1, 3), (2, 256), (3, 252)), (1, 2, 3))
    >>> mended_pieces(3, 1, 1, [(9,), (9,), (8,)]), mended_pieces(3, 2, 1, [(9,), (9,), (8,)])
    ((((9,), (9,), (9,)), (2,)), None)

    >>> from wrecktold.slots import goes_on, is_ring_row, most_looks, newest, ring_row, slot_of, torn_row
    >>> ring_row(5, 13), torn_row(5, 13), torn_row(3, 1), slot_of(5, 13)
    ((10, 11, 12, 8, 9), (10, 11, 12, 'torn', 9), (0, 'torn', None), 3)
    >>> newest((10, 11, 12, 8, 9)), goes_on((10, 11, 12, "torn", 9)), newest(torn_row(5, 10)), most_looks(5)
    ((12, 13, (0, 2, 3)), (3, 13), (9, 10, (0, 4)), 4)
    >>> is_ring_row([5, 1, 2]), is_ring_row((3, 4, 2)), newest((None, 7, 7))
    (False, True, (None, 0, (0,)))

    >>> from wrecktold.keeps import Keeps, first_full, needed
    >>> ring = Keeps(6, 2)
    >>> [ring.go_on() for turn in range(7)], ring.row, ring.first_there()
    ([(0, 0), (1, 1), (2, 2), (3, 3), (4, 4), (5, 5), (0, 6)], (6, 1, 2, 3, 4, 5), 1)
    >>> ring.ask(2, 1), ring.full_with(2, 1), ring.ask(3, 0), [ring.go_on() for turn in range(5)], ring.row
    ((0, 5, 7), None, None, [(1, 7), (2, 8), (3, 9), (4, 10), (2, 11)], (6, 7, 11, 9, 10, 5))
    >>> needed(12, 2, ring.stretches()), first_full(6, 2, 12, [(5, 7), (12, 13)])
    ((5, 6, 7, 10, 11), 15)

    >>> from wrecktold.chips import Chips
    >>> from wrecktold.recorder import open_recorder
    >>> chips, shape = Chips(3, 4), (3, 2, 4, 1, 12)
    >>> recorder = open_recorder(chips, shape)
    >>> recorder.hear((1, 2)), recorder.ask(1, 1), recorder.room(), recorder.ask(0, 9), recorder.hear(()), recorder.ring.row
    (0, (0, 0, 1), 11, None, 2, (0, 1, 2, None))
    >>> chips.lose(0), open_recorder(chips, shape).ring.asks, open_recorder(chips, shape).release(0)
    (None, ((0, 0, 1),), 3)

    >>> from wrecktold.chips import Chips
    >>> from wrecktold.recorder import open_recorder
    >>> from wrecktold.salvage import asks_of, data_of, holes, salvage, short_blocks, told_blocks, torn_places
    >>> chips, shape = Chips(3, 4), (3, 2, 4, 1, 12)
    >>> recorder = open_recorder(chips, shape)
    >>> recorder.hear((1, 2)), recorder.ask(1, 1), [recorder.hear((many,)) for many in (3, 4, 5)]
    (0, (0, 0, 1), [2, 3, 4])
    >>> memory = (chips.memory()[0], None, (None, "torn") + chips.memory()[2][2:])
    >>> told_blocks(shape, memory), short_blocks(shape, memory), torn_places(shape, memory), asks_of(shape, memory)
    (((3, ((0, 0, 1),), (4,)), (4, ((0, 0, 1),), (5,))), ((0, 0, 1), (1, 1, 1)), ((1, 2),), ((0, 0, 1),))
    >>> data_of(shape, memory, 4), holes(shape, chips.memory()), salvage(shape, (None, None, None))
    ((5,), ((2, 2),), ())

    >>> from wrecktold.clocks import course_holds
    >>> from wrecktold.happenings import time_of
    >>> setup = (((2, 3, 0, 1, 1, 9), (1, 2, 0, 0, 2, 9)), (1, 1), ((0, 5), (1, None)))
    >>> rows = ((0, 4, 0, 0, 7, 1, ((0, 10),)), (0, 6, 1, 0, 0, 3, ((1, 1),)), (0, 8, 0, 0, 8, 3, ((0, 25),)))
    >>> told = ((3, 4), (6, 6), (8, 8))
    >>> course_holds(setup, rows, told), time_of(told, ("sent", 2)) - time_of(told, ("sent", 0))
    (True, 5)
'''


class Examples(unittest.TestCase):
    def run_text(self, text):
        """How many examples of a text were tried, all having told their answers."""
        test = doctest.DocTestParser().get_doctest(text, {}, "examples", None, 0)
        told = []
        result = doctest.DocTestRunner(verbose=False).run(test, out=told.append)
        self.assertEqual(result.failed, 0, "".join(told))
        return result.attempted

    def test_each_answer(self):
        self.assertGreater(self.run_text(EXAMPLES), 60)

    def test_those_of_the_readme(self):
        self.assertGreater(self.run_text(README.read_text()), 3)


if __name__ == "__main__":
    unittest.main()
