"""Points [15], [16]: the bounds of rows, and courses."""

import time
import unittest

from plain import ODD, all_tuples, caught, chance, flight, keeps, some_setup, with_part
from wrecktold.clocks import bounds_of, course_faults, course_holds, edge_words, heard, sent, system_of
from wrecktold.differences import check_system, values_hold
from wrecktold.errors import BadRows, BadSetup, Refused

SETUP = (((2, 3, 0, 1, 1, 9), (1, 2, 0, 0, 2, 9)), (1, 1), ((0, 5), (1, None)))
ROWS = ((0, 4, 0, 0, 7, 1, ((0, 10),)), (0, 6, 1, 0, 0, 3, ((1, 1),)), (0, 8, 0, 0, 8, 3, ((0, 25),)))

# Of every kind of bound some, told by hand.
WIDE = (((2, 3, 1, 4, 3, 9), (1, 2, 0, 0, 2, 9)), (2, 5), ((0, 5), (1, None), (0, 7), (1, 1)))
WIDE_ROWS = (
    (0, 4, 0, 0, 7, 10, ((0, 10), (2, 0))),
    (0, 4, 1, 0, 0, 3, ((1, 1), (3, 4))),
    (0, 9, 0, 0, 8, 15, ((0, -1),)),
    (2, 0, 0, 1, 0, 3, ((0, -1), (2, 8))),
    (2, 7, 1, 0, 2, 9, ((3, 4),)),
)
WIDE_BOUNDS = (
    (("way", 0), ((0, 1, 4), (1, 0, -1))), (("way", 1), ((2, 3, 0), (3, 2, 0))), (("way", 2), ((4, 5, 4), (5, 4, -1))),
    (("way", 3), ((6, 7, 4), (7, 6, -1))), (("way", 4), ((8, 9, 0), (9, 8, 0))),
    (("clock", 0, 2), ((0, 4, 15), (4, 0, -10))), (("boot", 2, 3), ((6, 4, -6),)), (("clock", 1, 4), ((2, 8, 12), (8, 2, -6))),
    (("recorder", 0, 1), ((1, 3, 0), (3, 1, 0))), (("recorder", 1, 2), ((3, 5, 25), (5, 3, -10))), (("start", 2, 3), ((7, 5, -1),)),
    (("recorder", 3, 4), ((7, 9, 35), (9, 7, -14))),
    (("rate", 0, 2, 0), ((4, 0, -3),)), (("rate", 2, 3, 0), ((6, 4, 0),)), (("rate", 0, 3, 2), ((6, 0, -2),)), (("rate", 1, 4, 3), ((8, 2, 0),)),
)


def plain_faults(setup, rows, course):
    """All that a course breaks, told by the words of points [15] and [16]."""
    found = set()
    for i, (_, _, source, _, _, _, _) in enumerate(rows):
        if not setup[0][source][2] <= course[i][1] - course[i][0] <= setup[0][source][3]:
            found.add(("way", i, i))
    for j, (rboot, rstamp, source, boot, number, stamp, readings) in enumerate(rows):
        for i, (was_rboot, was_rstamp, was_source, was_boot, was_number, was_stamp, was_readings) in enumerate(rows[:j]):
            behind = course[j][1] - course[i][1]
            stamps = rstamp - was_rstamp
            if rboot == was_rboot and not setup[1][0] * stamps <= behind <= setup[1][1] * stamps:
                found.add(("recorder", i, j))
            if rboot != was_rboot and behind < 1:
                found.add(("start", i, j))
            if source != was_source:
                continue
            low, high, _, _, gap, pause = setup[0][source]
            behind = course[j][0] - course[i][0]
            stamps = stamp - was_stamp
            if boot == was_boot and not low * stamps <= behind <= high * stamps:
                found.add(("clock", i, j))
            if boot == was_boot and not any((number - was_number - d) % 256 == 0 and gap * d <= stamps <= pause * d for d in range(1, stamps + 1)):
                found.add(("numbers", i, j))
            if boot != was_boot and behind < low * gap:
                found.add(("boot", i, j))
            for channel, value in readings:
                rate = setup[2][channel][1]
                for was, old in was_readings:
                    if was == channel and rate is not None and not (behind >= 0 and abs(value - old) <= rate * behind):
                        found.add(("rate", i, j))
    return tuple(sorted(found))


class Bounds(unittest.TestCase):
    def test_numbers_of_times(self):
        self.assertEqual([(sent(place), heard(place=place)) for place in (0, 1, 199)], [(0, 1), (2, 3), (398, 399)])
        self.assertEqual(sent(place=7), 14)

    def test_the_example(self):
        told = bounds_of(SETUP, ROWS)
        self.assertEqual(told[3], (("clock", 0, 2), ((0, 4, 6), (4, 0, -4))))
        self.assertEqual(told[6], (("rate", 0, 2, 0), ((4, 0, -3),)))
        self.assertIs(course_holds(SETUP, ROWS, ((4, 4), (6, 6), (8, 8))), True)
        self.assertEqual(course_faults(SETUP, ROWS, ((3, 4), (5, 6), (6, 8))), (("clock", 0, 2), ("way", 1, 1), ("way", 2, 2)))

    def test_word_by_word_in_the_told_order(self):
        self.assertEqual(bounds_of(WIDE, WIDE_ROWS), WIDE_BOUNDS)
        edges = tuple(edge for _, told in WIDE_BOUNDS for edge in told)
        self.assertEqual(system_of(WIDE, WIDE_ROWS), (10, edges))
        self.assertEqual(edge_words(WIDE, WIDE_ROWS), tuple(words for words, told in WIDE_BOUNDS for edge in told))
        self.assertEqual(system_of(setup=list(WIDE), rows=list(WIDE_ROWS))[0], 10)
        self.assertTrue(all_tuples(bounds_of([list(part) for part in WIDE], [list(row) for row in WIDE_ROWS])))
        self.assertEqual(check_system(system_of(WIDE, WIDE_ROWS)), system_of(WIDE, WIDE_ROWS))

    def test_no_rows_and_one(self):
        self.assertEqual(bounds_of(setup=SETUP, rows=()), ())
        self.assertEqual(system_of(SETUP, []), (0, ()))
        self.assertEqual(edge_words(setup=SETUP, rows=[]), ())
        self.assertEqual(course_faults(SETUP, (), ()), ())
        self.assertIs(course_holds(SETUP, (), []), True)
        self.assertIs(course_holds(SETUP, (), None), False)
        self.assertEqual(edge_words(SETUP, ROWS[:1]), (("way", 0), ("way", 0)))

    def test_rates_round_up(self):
        for change, ticks in [(0, 0), (1, 1), (4, 1), (5, 1), (6, 2), (-6, 2), (-10, 2), (-11, 3)]:
            rows = (ROWS[0], with_part(ROWS[2], 6, ((0, 10 + change),)))
            self.assertEqual(bounds_of(SETUP, rows)[-1], (("rate", 0, 1, 0), ((2, 0, -ticks),)))

    def test_errors_ahead_of_all_else(self):
        for call, more in [(bounds_of, ()), (system_of, ()), (edge_words, ()), (course_faults, (None,)), (course_holds, (None,))]:
            self.assertEqual(caught(BadSetup, call, with_part(SETUP, 2, ()), None, *more).at, 2)
            self.assertEqual(caught(BadRows, call, SETUP, 7, *more).at, -1)
            self.assertEqual(caught(BadRows, call, SETUP, ROWS[:2] + ROWS[:1], *more).at, 2)


class Courses(unittest.TestCase):
    def test_what_is_no_course(self):
        good = ((4, 4), (6, 6), (8, 8))
        bad_ones = [*ODD, good[:2], (*good, (9, 9)), ((4, 4), (6, 6), 8), ((4, 4), (6, 6), (8,)), ((4, 4), (6, 6), (8, 8, 8))]
        bad_ones += [with_part(good, 1, (bad, 6)) for bad in ODD if bad.__class__ is not int]
        bad_ones += [with_part(good, 1, [6, bad]) for bad in ODD if bad.__class__ is not int]
        for bad in bad_ones:
            self.assertIs(caught(Refused, course_faults, SETUP, ROWS, bad).at, bad)
            self.assertIs(course_holds(SETUP, ROWS, bad), False)
        self.assertIs(course_holds(setup=SETUP, rows=ROWS, value=[[4, 4], [6, 6], [8, 8]]), True)
        self.assertEqual(course_faults(setup=SETUP, rows=ROWS, course=[[4, 4], [6, 6], [8, 8]]), ())

    def test_by_all_pairs_not_neighbours_alone(self):
        setup = (((1, 1, 0, 99, 100, 200),), (1, 1), ((0, 1),))
        rows = tuple((0, 100 * at, 0, 0, at, 100 * at, ((0, 0),)) for at in range(3))
        course = ((0, 0), (101, 101), (202, 202))
        self.assertEqual(
            course_faults(setup, rows, course),
            tuple(sorted((word, i, j) for word in ("clock", "recorder") for i, j in ((0, 1), (0, 2), (1, 2)))),
        )
        setup = (((1, 9, 0, 0, 1, 9),), (1, 9), ((0, 1),))
        rows = tuple((at, 0, 0, at, 0, 0, ((0, value),)) for at, value in enumerate((0, 5, 12)))
        self.assertEqual(course_faults(setup, rows, ((0, 0), (9, 9), (9, 9))), (("boot", 1, 2), ("rate", 0, 2), ("rate", 1, 2), ("start", 1, 2)))
        self.assertEqual(course_faults(setup, rows, ((9, 9), (0, 0), (9, 9)))[:2], (("boot", 0, 1), ("boot", 0, 2)))

    def test_several_channels_of_two_rows_are_told_once(self):
        setup = (((1, 9, 0, 0, 1, 9),), (1, 9), ((0, 1), (0, 1), (0, None)))
        rows = ((0, 0, 0, 0, 0, 0, ((0, 0), (1, 0), (2, 0))), (0, 1, 0, 0, 1, 1, ((0, 9), (1, 9), (2, 9))))
        self.assertEqual(course_faults(setup, rows, ((0, 0), (8, 8))), (("rate", 0, 1),))
        self.assertIs(course_holds(setup, rows, ((0, 0), (9, 9))), True)

    def test_numbers_of_any_two_rows(self):
        setup = (((1, 1, 0, 0, 2, 3),), (1, 1), ((0, None),))
        rows = tuple((0, stamp, 0, boot, number, stamp, ()) for boot, number, stamp in ((0, 5, 0), (0, 6, 3), (0, 8, 6), (1, 3, 9)))
        course = tuple((row[1], row[1]) for row in rows)
        self.assertEqual(course_faults(setup, rows, course), (("numbers", 1, 2),))
        self.assertIs(course_holds(setup, rows, course), False)
        rows = tuple((0, stamp, 0, 0, number, stamp, ()) for number, stamp in ((5, 0), (7, 3), (8, 6)))
        self.assertEqual(course_faults(setup, rows, ((0, 0), (3, 3), (6, 6))), (("numbers", 0, 1),))

    def test_what_truly_was_holds_and_what_is_turned_is_told(self):
        told = {}
        for seed in range(250):
            dice = chance(seed)
            setup = some_setup(dice)
            rows, course = flight(dice, setup)
            self.assertEqual(course_faults(setup, rows, course), ())
            self.assertIs(course_holds(setup, rows, course), True)
            for turn in range(4):
                turned = tuple((one + self.jolt(dice), other + self.jolt(dice)) for one, other in course)
                faults = course_faults(setup, rows, turned)
                self.assertEqual(faults, plain_faults(setup, rows, turned))
                self.assertIs(course_holds(setup, rows, turned), not faults)
                told.update({fault[0]: True for fault in faults})
            bent = tuple(with_part(row, 4, (row[4] + (dice.random() < 0.3)) % 256) for row in rows)
            self.assertEqual(course_faults(setup, bent, course), plain_faults(setup, bent, course))
        self.assertEqual(sorted(told), ["boot", "clock", "rate", "recorder", "start", "way"])

    def jolt(self, dice):
        return dice.choice((0, 0, 0, 0, 0, -1, 1, 3, -8))

    def test_a_course_holds_just_if_it_keeps_all_edges(self):
        rights = 0
        for seed in range(400):
            dice = chance(seed)
            setup = some_setup(dice)
            rows, course = flight(dice, setup, 3)
            moved = tuple((one + dice.choice((0, 0, 0, 1)), other + dice.choice((0, 0, 0, 1))) for one, other in course)
            times = [time for pair in moved for time in pair]
            many, edges = system_of(setup, rows)
            self.assertEqual(len(edge_words(setup, rows)), len(edges))
            kept = keeps(edges, times)
            self.assertIs(course_holds(setup, rows, moved), kept)
            if rows:
                self.assertIs(values_hold((many, edges), times), kept)
                rights += kept and moved != course
        self.assertGreater(rights, 20)

    def test_two_hundred_rows_soon(self):
        channels = tuple((0, 5) for _ in range(16))
        setup = (((1, 2, 0, 0, 1, 50),), (1, 2), channels)
        rows = tuple((0, 9 * at, 0, 0, at, 9 * at, tuple((channel, at) for channel in range(16))) for at in range(200))
        course = [[9 * at, 9 * at] for at in range(200)]
        start = time.time()
        self.assertIs(course_holds(setup, rows, course), True)
        self.assertEqual(len(bounds_of(setup, rows)), 200 + 199 + 199 + 16 * 199)
        self.assertEqual(system_of(setup, rows)[0], 400)
        course[199] = [9 * 199, 9 * 199 + 1]
        self.assertEqual(course_faults(setup, rows, course), (("way", 199, 199),))
        self.assertLess(time.time() - start, 30)


if __name__ == "__main__":
    unittest.main()
