"""The examples of the document, with just the answers that stand there."""

import doctest
import pathlib
import unittest

README = pathlib.Path(__file__).resolve().parent.parent / "README.md"

EXAMPLES = '''
    >>> from wrecktold.meaning import wreck_order, wreck_stretch
    >>> from wrecktold.world import World
    >>> setup, shape = (((2, 3, 0, 1, 1, 9), (1, 2, 0, 0, 2, 9)), (1, 1), ((0, 5), (1, None))), (3, 2, 4, 2, 40)
    >>> world = World(setup, shape)
    >>> world.hear(4, (0, 0, 7, 1, ((0, 10),))), world.hear(6, (1, 0, 0, 3, ((1, 1),))), world.hear(8, (0, 0, 8, 3, ((0, 25),)), 1)
    (0, 1, None)
    >>> world.lose(2), world.told()[1], wreck_stretch(setup, shape, world.wreck(), ("sent", 0), ("sent", 1))
    (None, (0, 1), (2, 3))
    >>> wreck_order(setup, shape, world.wreck(), ("sent", 0), ("sent", 1)), wreck_order(setup, shape, world.wreck(), ("sent", 0), ("heard", 0))
    ('ahead', 'open')

    >>> from wrecktold.forms import healing, read_rows, read_value, value_length, write_row, write_value
    >>> write_value([None, -3, "ab"]), value_length(256 ** 2)
    ((4, 1, 3, 0, 2, 1, 2, 3, 1, 2, 0, 1), 5)
    >>> octets = write_row(("kept", (None, 3))) + (4, 1, 2, 3)
    >>> read_value((9, 9) + octets, 2), read_rows(octets), healing(octets)
    ((('kept', (None, 3)), 19), ((('kept', (None, 3)),), 17), (0, 0))

    >>> from wrecktold.differences import implied, met, solved, span, table, thinned, within
    >>> from wrecktold.edits import Bounds
    >>> system = (3, ((0, 1, 2), (1, 2, -1), (2, 0, 0), (0, 2, 5)))
    >>> solved(system), span(system, 0, 1), met(system, 0, 1, 3), implied(system, (0, 2, 1)), thinned(system)
    (('values', (-1, 0, -1)), (1, 2), None, True, (0, 1, 2))
    >>> table((2, ((0, 1, 4),))), within(system, (3, [(0, 2, 1)])), solved((1, ((0, 0, -1),)))
    (((0, 4), (None, 0)), True, ('ring', (0,)))
    >>> some = Bounds(1)
    >>> some.grow(), some.lay((0, 1, 3)), some.lay((1, 0, -4)), some.can([(1, 0, -3)]), some.ring_with([(1, 0, -4)]), some.span(0, 1)
    (1, ('laid', 0), ('ring', ('new', 0)), True, (('new', 0), 0), (None, 3))

    >>> from wrecktold.clocks import bounds_of, course_faults, course_holds
    >>> from wrecktold.setups import check_rows, readings_of
    >>> setup = (((2, 3, 0, 1, 1, 9), (1, 2, 0, 0, 2, 9)), (1, 1), ((0, 5), (1, None)))
    >>> rows = ((0, 4, 0, 0, 7, 1, ((0, 10),)), (0, 6, 1, 0, 0, 3, ((1, 1),)), (0, 8, 0, 0, 8, 3, ((0, 25),)))
    >>> readings_of(rows, 0), bounds_of(setup, rows)[3], bounds_of(setup, rows)[6]
    (((0, 10), (2, 25)), (('clock', 0, 2), ((0, 4, 6), (4, 0, -4))), (('rate', 0, 2, 0), ((4, 0, -3),)))
    >>> course_holds(setup, rows, ((4, 4), (6, 6), (8, 8))), course_faults(setup, rows, ((3, 4), (5, 6), (6, 8)))
    (True, (('clock', 0, 2), ('way', 1, 1), ('way', 2, 2)))

    >>> from wrecktold.numbers import ahead_counts, counts, doubt_span, missing, missing_sums, run_between, run_holds
    >>> source = (1, 1, 0, 0, 2, 5)
    >>> counts(source, (250, 100), (3, 130)), counts(source, (0, 0), (0, 1500)), ahead_counts(source, (7, 600))
    ((9,), (512,), (7, 263))
    >>> doubt_span(source), run_between(source, (255, 10), (2, 20), 3), run_holds(source, [(255, 10), (0, 16)])
    (854, ((255, 10), (0, 13), (1, 16), (2, 20)), False)
    >>> setup = ([source], (1, 1), [(0, None)])
    >>> rows = [(0, 0, 0, 0, 4, 50, ()), (0, 9, 0, 0, 7, 59, ()), (0, 30, 0, 0, 7, 80, ())]
    >>> missing(setup, rows), missing_sums(setup, rows[:2], 0)
    (((0, 1, (2,)), (1, 2, ())), (2,))

    >>> from wrecktold.limits import above, gaps, limit_words, reach, surely_above
    >>> from wrecktold.tents import highest, many_above, values_at
    >>> highest((0, 3, 2, 5)), values_at((0, 3, 2, 5), 2), many_above((3, 4, 2, 4), 2)
    (6, (-3, 4), (2, 5))
    >>> setup = (((1, 2, 0, 0, 3, 9),), (1, 1), ((0, 2),))
    >>> rows = [(0, 0, 0, 0, 0, 10, ((0, 5),)), (0, 4, 0, 0, 1, 13, ((0, 6),)), (0, 9, 0, 0, 2, 17, ((0, 9),))]
    >>> gaps(setup, rows, 0), reach(setup, rows, 0)
    (((0, 1, 5, 6, 4, 4), (1, 2, 6, 9, 5, 5)), ((0, 1, 2, 9), (1, 2, 3, 12)))
    >>> limit_words(setup, rows, 0, 9), above(setup, rows, 0, 5), surely_above(setup, rows, 0, 2)
    (((0, 1, 'kept'), (1, 2, 'open')), ((0, 1, 1, 4), (1, 2, 3, 6)), ((1, 2, 5),))

    >>> from wrecktold.packing import most_length, packed, row_at, row_length, row_octets, unpacked
    >>> setup = ([(1, 1, 0, 0, 2, 5), (1, 2, 0, 0, 2, 5)], (1, 1), [(0, None), (1, 3), (0, 7)])
    >>> row = (1, 300, 0, 2, 255, 70000, [(2, -1)])
    >>> row_octets(setup, row), most_length(setup), row_length(setup, (0, 0, 1, 0, 0, 0, ()))
    ((1, 0, 1, 44, 0, 2, 255, 1, 17, 112, 2, 15, 66, 63), 17, 11)
    >>> row_at(setup, (9,) + row_octets(setup, row), 1) == (unpacked(setup, packed(setup, row, 20)), 15)
    True

    >>> from wrecktold.codes import coded, fits, mended, told_data
    >>> from wrecktold.pieces import mended_pieces, octets_of, pieces_of
    >>> coded(4, 2, (5, 7)), told_data(4, 2, (None, 7, None, 11)), fits(4, 2, (5, 7, 9, 12)), mended(4, 2, (5, 7, 200, 11))
    ((5, 7, 9, 11), (5, 7), False, ((5, 7), (2,)))
    >>> pieces_of(3, 2, 2, (1, 2, 3)), octets_of(3, 2, 2, [None, (2, 256), (3, 252)])
    (((1, 3), (2, 256), (3, 252)), (1, 2, 3))
    >>> mended_pieces(3, 1, 1, [(9,), (9,), (8,)]), mended_pieces(3, 2, 1, [(9,), (9,), (8,)])
    ((((9,), (9,), (9,)), (2,)), None)

    >>> from wrecktold.slots import goes_on, is_ring_row, most_looks, newest, ring_row, slot_of, torn_row
    >>> ring_row(5, 13), torn_row(5, 13), torn_row(3, 1), slot_of(5, 13)
    ((10, 11, 12, 8, 9), (10, 11, 12, 'torn', 9), (0, 'torn', None), 3)
    >>> newest((10, 11, 12, 8, 9)), goes_on((10, 11, 12, "torn", 9)), newest(torn_row(5, 10)), most_looks(5)
    ((12, 13, (0, 2, 3)), (3, 13), (9, 10, (0, 4)), 4)
    >>> is_ring_row([5, 1, 2]), is_ring_row((3, 4, 2)), newest((None, 7, 7))
    (False, True, (None, 0, (0,)))

    >>> from wrecktold.keeps import Keeps, first_full, needed
    >>> ring = Keeps(6, 2)
    >>> [ring.go_on() for turn in range(7)], ring.row, ring.first_there()
    ([(0, 0), (1, 1), (2, 2), (3, 3), (4, 4), (5, 5), (0, 6)], (6, 1, 2, 3, 4, 5), 1)
    >>> ring.ask(2, 1), ring.full_with(2, 1), ring.ask(3, 0), [ring.go_on() for turn in range(5)], ring.row
    ((0, 5, 7), None, None, [(1, 7), (2, 8), (3, 9), (4, 10), (2, 11)], (6, 7, 11, 9, 10, 5))
    >>> needed(12, 2, ring.stretches()), first_full(6, 2, 12, [(5, 7), (12, 13)])
    ((5, 6, 7, 10, 11), 15)

    >>> from wrecktold.chips import Chips
    >>> from wrecktold.recorder import open_recorder
    >>> chips, shape = Chips(3, 4), (3, 2, 4, 1, 12)
    >>> recorder = open_recorder(chips, shape)
    >>> recorder.hear((1, 2)), recorder.ask(1, 1), recorder.room(), recorder.ask(0, 9), recorder.hear(()), recorder.ring.row
    (0, (0, 0, 1), 11, None, 2, (0, 1, 2, None))
    >>> chips.lose(0), open_recorder(chips, shape).ring.asks, open_recorder(chips, shape).release(0)
    (None, ((0, 0, 1),), 3)

    >>> from wrecktold.chips import Chips
    >>> from wrecktold.recorder import open_recorder
    >>> from wrecktold.salvage import asks_of, data_of, holes, salvage, short_blocks, told_blocks, torn_places
    >>> chips, shape = Chips(3, 4), (3, 2, 4, 1, 12)
    >>> recorder = open_recorder(chips, shape)
    >>> recorder.hear((1, 2)), recorder.ask(1, 1), [recorder.hear((many,)) for many in (3, 4, 5)]
    (0, (0, 0, 1), [2, 3, 4])
    >>> memory = (chips.memory()[0], None, (None, "torn") + chips.memory()[2][2:])
    >>> told_blocks(shape, memory), short_blocks(shape, memory), torn_places(shape, memory), asks_of(shape, memory)
    (((3, ((0, 0, 1),), (4,)), (4, ((0, 0, 1),), (5,))), ((0, 0, 1), (1, 1, 1)), ((1, 2),), ((0, 0, 1),))
    >>> data_of(shape, memory, 4), holes(shape, chips.memory()), salvage(shape, (None, None, None))
    ((5,), ((2, 2),), ())

    >>> from wrecktold.courses import course_at, course_with, quarrel, stretch
    >>> from wrecktold.happenings import time_of
    >>> setup = (((2, 3, 0, 1, 1, 9), (1, 2, 0, 0, 2, 9)), (1, 1), ((0, 5), (1, None)))
    >>> rows = ((0, 4, 0, 0, 7, 1, ((0, 10),)), (0, 6, 1, 0, 0, 3, ((1, 1),)), (0, 8, 0, 0, 8, 3, ((0, 25),)))
    >>> stretch(setup, rows, ("sent", 0), ("sent", 2)), stretch(setup, rows, ("sent", 1), ("heard", 2))
    ((4, 5), (2, 2))
    >>> told = course_at(setup, rows, ("sent", 0), ("sent", 2), 5)
    >>> time_of(told, ("sent", 2)) - time_of(told, ("sent", 0)), course_with(setup, rows, [(0, 4, 3)])
    (5, None)
    >>> quarrel(setup, rows + ((0, 9, 0, 0, 20, 4, ()),)), quarrel(setup, rows + ((0, 9, 0, 0, 9, 5, ()),))[0]
    (('numbers', 2, 3), 'ring')

    >>> from wrecktold.order import Story, open_holds, order, order_paper
    >>> setup = (((2, 3, 0, 1, 1, 9), (1, 2, 0, 0, 2, 9)), (1, 1), ((0, 5), (1, None)))
    >>> rows = ((0, 4, 0, 0, 7, 1, ((0, 10),)), (0, 6, 1, 0, 0, 3, ((1, 1),)), (0, 8, 0, 0, 8, 3, ((0, 25),)))
    >>> order(setup, rows, ("sent", 0), ("heard", 2)), order(setup, rows, ("heard", 2), ("sent", 0)), order(setup, rows, ("sent", 1), ("heard", 1))
    ('ahead', 'behind', 'at once')
    >>> order_paper(setup, rows, ("sent", 1), ("heard", 1)), order(setup, rows, ("sent", 0), ("heard", 0))
    (('sure', (('way', 1), ('way', 1))), 'open')
    >>> open_holds(setup, rows, ("sent", 0), ("heard", 0), order_paper(setup, rows, ("sent", 0), ("heard", 0)))
    True
    >>> story = Story(setup)
    >>> [story.take(row) for row in rows], story.order(("sent", 0), ("sent", 1))
    ([0, 1, 2], 'ahead')

    >>> from wrecktold.questions import counted, first_of, followed, marked
    >>> setup = (((1, 2, 0, 0, 2, 9),), (1, 2), ((0, None), (0, None)))
    >>> rows = ((0, 0, 0, 0, 0, 0, ((0, 1),)), (0, 4, 0, 0, 1, 4, ((1, 1),)), (0, 8, 0, 0, 2, 8, ((0, 2), (1, 1))))
    >>> marked(setup, rows, (0, 1, 1)), followed(setup, rows, 0, (1, 1, 1), 8), followed(setup, rows, 0, (1, 1, 1), 3)
    ((0,), ('always',), ('never',))
    >>> followed(setup, rows, 0, (1, 1, 1), 5)[0], [many for many, course in counted(setup, rows, ("sent", 0), ("heard", 1), (1, 0, 9))]
    ('open', [1])
    >>> [at for at, course in first_of(setup, rows, [(1, 0, 9), (0, 0, 9), (0, 5, 9)])]
    [1]

    >>> from wrecktold.causes import bare_course, chain_word, explained, explained_course, roots, sure_links, surely_from
    >>> setup = (((1, 1, 0, 2, 3, 9), (1, 1, 0, 2, 3, 9)), (1, 1), ((0, None), (1, None)))
    >>> rows = [(0, 0, 0, 0, 0, 10, ((0, 1),)), (0, 4, 1, 0, 0, 50, ((1, 7),)), (0, 6, 0, 0, 1, 16, ((0, 2),))]
    >>> causes = [((0, 1, 1), (1, 7, 7), 2, 6), ((0, 1, 1), (0, 2, 2), 0, 6), ((1, 7, 7), (0, 2, 2), 1, 2)]
    >>> [explained(setup, rows, causes, place, most=9) for place in (0, 1, 2)], roots(setup, rows, causes, most=9)
    (['never', 'always', 'always'], ())
    >>> sure_links(setup, rows, causes), surely_from(setup, rows, causes, 0), chain_word(setup, rows, causes, [(0, 0, 1), (2, 1, 2)])
    (((0, 0, 1), (1, 0, 2)), (0, 1, 2), 'open')
    >>> explained(setup, rows, causes[2:], 2, most=9), bare_course(setup, rows, causes[:1], 1, most=9)
    ('open', None)

    >>> from wrecktold.joined import frames_of, joint_course, joint_quarrel, joint_stretch, left_out
    >>> joint = (((1, 2, 0, 0, 2, 9),), ((1, 1), (2, 2)), ((0, None),))
    >>> wrecks = (((0, 0, 0, 0, 0, 0, ()), (0, 6, 0, 0, 2, 4, ())), ((0, 0, 0, 0, 0, 0, ()), (0, 2, 0, 0, 1, 2, ())))
    >>> [row[2:6] for row in frames_of(joint, wrecks)[0]], joint_quarrel(joint, wrecks)
    ([(0, 0, 0, 0), (0, 0, 1, 2), (0, 0, 2, 4)], None)
    >>> joint_stretch(joint, wrecks, ("sent", 1, 1), ("heard", 0, 1)), joint_stretch(joint, wrecks, ("sent", 0, 0), ("sent", 1, 0))
    ((2, 2), (0, 0))
    >>> bent = (wrecks[0], (wrecks[1][0], (0, 3, 0, 0, 1, 2, ())))
    >>> joint_quarrel(joint, bent)[0], left_out(joint, bent, most=9)
    ('ring', ((1, 0),))

    >>> from wrecktold.budget import budget, covered, fastest, kept_for, least_ticks, most_rows
    >>> setup = (((2, 3, 0, 3, 2, 5), (3, 3, 1, 1, 1, 1)), (1, 2), ((0, None),))
    >>> [most_rows(setup, ticks) for ticks in (0, 1, 3, 5, 6)], least_ticks(setup, 5), covered(setup, 3), kept_for(setup, 4)
    ([2, 3, 4, 5, 6], 5, 2, 4)
    >>> rows, course = budget(setup, 2, 1)
    >>> budget(setup, 2, 0), len(rows), course[0][1], course[-1][1]
    (None, 3, 0, 1)

    >>> from wrecktold.meaning import meaning, wreck_order, wreck_rows, wreck_stretch
    >>> from wrecktold.world import World
    >>> setup = (((1, 2, 0, 3, 4, 9), (1, 1, 0, 0, 2, 9)), (1, 1), ((0, None), (1, 3)))
    >>> world = World(setup, (3, 2, 6, 2, 20))
    >>> world.hear(0, (0, 0, 0, 0, ((0, 7),))), world.hear(1, (1, 0, 0, 0, ())), world.lose(0), world.hear(6, (0, 0, 1, 4, ()), 0), world.rboot
    (0, 1, None, None, 1)
    >>> world.hear(0, (1, 0, 3, 9, ((1, 2),))), [number for number, row in wreck_rows(setup, world.shape, world.wreck())]
    (2, [0, 1, 2])
    >>> [wreck_order(setup, world.shape, world.wreck(), ("sent", 0), ("sent", number)) for number in (1, 2)], world.told()[3]
    (['ahead', 'ahead'], ())
    >>> wreck_stretch(setup, world.shape, world.wreck(), ("sent", 0), ("sent", 1)), meaning(setup, world.shape, (None, None, None))
    ((1, 4), ('told', (), (), ()))

    >>> from wrecktold.desk import Desk
    >>> setup = (((1, 2, 0, 1, 3, 9),), (1, 1), ((0, 2), (0, None)))
    >>> desk = Desk(setup, (3, 2, 6, 2, 40))
    >>> [desk.say(line) for line in ("hear 0 0 0 0 10 0:5", "hear 4 0 0 1 13 0:6 1:-1", "ask 1 0", "lose 2", "hear 4 9 0 2 16")]
    ['block 0', 'block 1', 'given 0 1 1', 'ok', 'refused']
    >>> [desk.say(line) for line in ("told", "blocks", "asks", "time sent 0 sent 1", "order heard 1 sent 0", "limit 0 12")]
    ['told', '0 1', '0:1:1', '3 5', 'behind', 'kept']
'''


class Examples(unittest.TestCase):
    def run_text(self, text):
        """How many examples of a text were tried, all having told their answers."""
        test = doctest.DocTestParser().get_doctest(text, {}, "examples", None, 0)
        told = []
        result = doctest.DocTestRunner(verbose=False).run(test, out=told.append)
        self.assertEqual(result.failed, 0, "".join(told))
        return result.attempted

    def test_each_answer(self):
        self.assertGreater(self.run_text(EXAMPLES), 110)

    def test_those_of_the_readme(self):
        self.assertGreater(self.run_text(README.read_text()), 3)


if __name__ == "__main__":
    unittest.main()
