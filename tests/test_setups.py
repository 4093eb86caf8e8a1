"""Points [13], [14]: setups, frames and rows."""

import unittest

from plain import ODD, all_tuples, caught, chance, deep, flight, some_setup, with_part
from wrecktold.errors import BadFrame, BadRows, BadSetup, NoChannel
from wrecktold.setups import check_frame, check_row, check_rows, check_setup, need_channel, neighbours, readings_of, rows_of

SOURCE = (2, 3, 4, 7, 2, 9)
SETUP = ((SOURCE, (1, 2, 0, 0, 2, 9)), (1, 5), ((0, 5), (1, None), (0, None), (0, 1000)))
FRAME = (0, 3, 7, 11, ((0, 10), (2, -5), (3, 0)))
ROW = (2, 9) + FRAME
ROWS = ((0, 4, 0, 0, 7, 1, ((0, 10),)), (0, 6, 1, 0, 0, 3, ((1, 1),)), (0, 8, 0, 0, 8, 3, ((0, 25),)))

# By place in a source: values that cannot stand there beside SOURCE's others.
NO_SOURCE = {
    0: [*ODD, 0, 4, 101], 1: [*ODD, 0, 1, 101], 2: [*ODD, 8, 3, 1001], 3: [*ODD, 3, 8, 1001],
    4: [*ODD, 0, 1, 10, 1001], 5: [*ODD, 0, 1, 1001],
}
NO_PART = {0: [*ODD, 2], 1: [*ODD, 256], 2: [*ODD, 256], 3: [*ODD, 10 ** 6 + 1]}
NO_READINGS = [
    *(value for value in ODD if value not in ([], ())), (0, 10), ((0,),), ((0, 1, 2),), ((1, 1),), ((4, 1),), ((-1, 1),), ((True, 1),),
    ((0, True),), ((0, None),), ((None, 1),), ((0, 10 ** 6 + 1),), ((0, -(10 ** 6) - 1),), ((0, 1), (0, 1)), ((2, 1), (0, 1)),
    ((0, 1), (3, 1), (2, 1)), ((0, 1), 7), ((0, 1), "ab"), ({0: 1},),
]


class Setups(unittest.TestCase):
    def test_setups_are_told_as_tuples(self):
        told = check_setup([[list(SOURCE)], [1, 1], [[0, None]]])
        self.assertEqual(told, ((SOURCE,), (1, 1), ((0, None),)))
        self.assertTrue(all_tuples(told))
        self.assertEqual(check_setup(value=SETUP), SETUP)

    def test_edges_of_what_may_be(self):
        for source in [(1, 1, 0, 0, 1, 1), (100, 100, 0, 1000, 1000, 1000), (1, 100, 1000, 1000, 1, 1000), (7, 9, 0, 20, 3, 3)]:
            self.assertEqual(check_setup(((source,), (100, 100), ((0, 1000),)))[0], (source,))
        for source in [(7, 9, 0, 21, 3, 3), (1, 1, 0, 1, 1, 1), (1, 100, 0, 1000, 1000, 1000), (100, 100, 0, 1001, 1000, 1000), (9, 9, -1, 0, 9, 9)]:
            self.assertEqual(caught(BadSetup, check_setup, ((source,), (1, 1), ((0, 1),))).at, 0)
        for many in (1, 8):
            self.assertEqual(len(check_setup(((SOURCE,) * many, (1, 100), ((many - 1, 1),) * 16))[2]), 16)
        self.assertEqual(caught(BadSetup, check_setup, ((SOURCE,) * 9, (1, 1), ((0, 1),))).at, 0)
        self.assertEqual(caught(BadSetup, check_setup, ((), (1, 1), ((0, 1),))).at, 0)
        self.assertEqual(caught(BadSetup, check_setup, ((SOURCE,), (1, 1), ((0, 1),) * 17)).at, 2)
        self.assertEqual(caught(BadSetup, check_setup, ((SOURCE,), (1, 1), ())).at, 2)

    def test_what_is_no_sequence_of_three(self):
        for value in [*ODD, SETUP[:2], (*SETUP, ()), deep(50)]:
            three = isinstance(value, list) and len(value) == 3
            self.assertEqual(caught(BadSetup, check_setup, value).at, 0 if three else -1)

    def test_the_first_part_that_is_not_so(self):
        for at in range(3):
            for bad in ODD:
                self.assertEqual(caught(BadSetup, check_setup, with_part(SETUP, at, bad)).at, at)
                self.assertEqual(caught(BadSetup, check_setup, with_part(with_part(SETUP, at, bad), 2, None)).at, at)
        self.assertEqual(caught(BadSetup, check_setup, (None, None, None)).at, 0)

    def test_sources_with_one_part_turned(self):
        for at, values in NO_SOURCE.items():
            for bad in values:
                sources = (SETUP[0][1], with_part(SOURCE, at, bad))
                self.assertEqual(caught(BadSetup, check_setup, (sources, (1, 1), ((0, 1),))).at, 0)
        for bad in [SOURCE[:5], (*SOURCE, 1), (), [SOURCE], "abcdef"]:
            self.assertEqual(caught(BadSetup, check_setup, ([SOURCE, bad], (1, 1), ((0, 1),))).at, 0)

    def test_recorders_and_channels_with_one_part_turned(self):
        for bad in [*ODD, (1,), (1, 1, 1), (0, 1), (2, 1), (1, 101), (101, 101), (True, 1), (1, True), (None, 1), ("1", 1)]:
            self.assertEqual(caught(BadSetup, check_setup, with_part(SETUP, 1, bad)).at, 1)
        for bad in [*ODD, (0,), (0, 1, 1), (2, 1), (-1, 1), (True, 1), (0, 0), (0, 1001), (0, True), (0, -1), (0, "1"), (None, None)]:
            self.assertEqual(caught(BadSetup, check_setup, with_part(SETUP, 2, ((0, 1), bad))).at, 2)

    def test_channels(self):
        for at in range(4):
            self.assertEqual(need_channel(SETUP, at), at)
            self.assertEqual(need_channel(setup=SETUP, value=at), at)
        for bad in [*ODD, 4, -1]:
            self.assertIs(caught(NoChannel, need_channel, SETUP, bad).value, bad)
        self.assertEqual(caught(BadSetup, need_channel, (1, 2), 0).at, -1)


class Frames(unittest.TestCase):
    def test_frames_and_rows_are_told_as_tuples(self):
        self.assertEqual(check_frame(SETUP, [*FRAME[:4], [[0, 10], (2, -5), [3, 0]]]), FRAME)
        self.assertEqual(check_row(SETUP, [*ROW[:6], [[0, 10], (2, -5), [3, 0]]]), ROW)
        self.assertTrue(all_tuples(check_row(SETUP, [*ROW[:6], [[0, 10]]])))
        self.assertEqual(check_frame(setup=SETUP, value=(1, 255, 255, 10 ** 6, [])), (1, 255, 255, 10 ** 6, ()))
        row = (255, 10 ** 6, 0, 0, 0, 0, ((0, 10 ** 6), (2, -(10 ** 6))))
        self.assertEqual(check_row(setup=SETUP, value=row), row)

    def test_the_wrong_shape(self):
        for value in [*ODD, FRAME[:4], ROW]:
            self.assertEqual(caught(BadFrame, check_frame, SETUP, value).at, -1)
        for value in [*ODD, ROW[:6], (*ROW, 1), FRAME]:
            self.assertEqual(caught(BadFrame, check_row, SETUP, value).at, -1)

    def test_one_part_turned(self):
        for at, values in NO_PART.items():
            for bad in values:
                frame = with_part(FRAME, at, bad)
                self.assertEqual(caught(BadFrame, check_frame, SETUP, frame).at, at)
                self.assertEqual(caught(BadFrame, check_frame, SETUP, with_part(frame, 4, None)).at, at)
                self.assertEqual(caught(BadFrame, check_row, SETUP, with_part(ROW, at + 2, bad)).at, at + 2)
        for bad in NO_READINGS:
            self.assertEqual(caught(BadFrame, check_frame, SETUP, with_part(FRAME, 4, bad)).at, 4)
            self.assertEqual(caught(BadFrame, check_row, SETUP, with_part(ROW, 6, bad)).at, 6)
        for bad in [*ODD, 256]:
            self.assertEqual(caught(BadFrame, check_row, SETUP, with_part(with_part(ROW, 0, bad), 1, bad)).at, 0)
        for bad in [*ODD, 10 ** 6 + 1]:
            self.assertEqual(caught(BadFrame, check_row, SETUP, with_part(with_part(ROW, 1, bad), 2, bad)).at, 1)
        self.assertEqual(caught(BadFrame, check_frame, SETUP, with_part(FRAME, 0, 1)).at, 4)

    def test_a_bad_setup_is_told_ahead(self):
        for call in (check_frame, check_row, check_rows):
            self.assertEqual(caught(BadSetup, call, with_part(SETUP, 1, 3), None).at, 1)
            self.assertEqual(caught(BadSetup, call, None, None).at, -1)


class Rows(unittest.TestCase):
    def test_rows_as_they_were_heard(self):
        self.assertEqual(check_rows(SETUP, [list(row) for row in ROWS]), ROWS)
        self.assertEqual(check_rows(setup=SETUP, value=[]), ())
        told = check_rows(SETUP, [[*row[:6], [list(pair) for pair in row[6]]] for row in ROWS])
        self.assertEqual(told, ROWS)
        self.assertTrue(all_tuples(told))
        dice = chance(21)
        for turn in range(100):
            setup = some_setup(dice)
            rows, course = flight(dice, setup)
            self.assertEqual(check_rows(setup, rows), rows)

    def test_what_is_no_sequence(self):
        for value in ODD:
            if not isinstance(value, (list, tuple)):
                self.assertEqual(caught(BadRows, check_rows, SETUP, value).at, -1)

    def test_the_first_that_is_no_row(self):
        for bad in [*ODD, ROW[:6], with_part(ROW, 2, 2), with_part(ROW, 6, ((1, 1),)), with_part(ROW, 0, True)]:
            for at in range(4):
                rows = [*ROWS[:at], bad, *ROWS[at:], bad]
                self.assertEqual(caught(BadRows, check_rows, SETUP, rows).at, at)

    def test_what_cannot_stand_behind_those_ahead(self):
        first = (3, 50, 0, 3, 9, 100, ())
        other = (3, 50, 1, 3, 9, 100, ())
        for rboot, rstamp, right in [(3, 50, True), (3, 51, True), (4, 0, True), (3, 49, False), (2, 60, False)]:
            for source in (0, 1):
                rows = (first, (rboot, rstamp, source, 3, 9, 101, ()))
                self.judge(rows, right, 1)
                self.judge((first, other, (rboot, rstamp, source, 4, 9, 0, ())), right, 2)
        for boot, stamp, right in [(3, 101, True), (4, 0, True), (3, 100, False), (3, 99, False), (2, 200, False)]:
            self.judge((first, (3, 60, 0, boot, 9, stamp, ())), right, 1)
            self.judge((first, other, (3, 60, 0, boot, 9, stamp, ())), right, 2)
            self.judge((first, other, (3, 60, 1, 3, 9, 999, ()), (3, 60, 0, boot, 9, stamp, ())), right, 3)
            self.judge((first, (3, 60, 1, boot, 9, stamp, ())), True, 1)

    def judge(self, rows, right, at):
        if right:
            self.assertEqual(check_rows(SETUP, rows), rows)
        else:
            self.assertEqual(caught(BadRows, check_rows, SETUP, rows).at, at)
            self.assertEqual(caught(BadRows, check_rows, SETUP, (*rows, None)).at, at)

    def test_two_hundred_and_one_more(self):
        rows = tuple((0, at, at % 2, 0, at, at, ()) for at in range(256))
        self.assertEqual(check_rows(SETUP, rows[:200]), rows[:200])
        self.assertEqual(caught(BadRows, check_rows, SETUP, rows[:201]).at, -1)
        self.assertEqual(caught(BadRows, check_rows, SETUP, rows).at, -1)
        self.assertEqual(caught(BadRows, check_rows, SETUP, [*rows, rows[-1]]).at, 256)

    def test_what_is_asked_of_rows(self):
        self.assertEqual(rows_of(ROWS, 0), (0, 2))
        self.assertEqual(rows_of(rows=list(ROWS), source=1), (1,))
        self.assertEqual(rows_of(ROWS, 5), ())
        self.assertEqual(readings_of(ROWS, 0), ((0, 10), (2, 25)))
        self.assertEqual(readings_of(rows=[list(row) for row in ROWS], channel=1), ((1, 1),))
        self.assertEqual(readings_of(ROWS, 2), ())
        self.assertEqual(readings_of([(None,) * 6 + ([[3, 7], [4, 8]],)], 4), ((0, 8),))
        self.assertEqual(rows_of([(None, None, 3, "x")], 3), (0,))
        self.assertEqual(neighbours([4, 7, 9]), ((4, 7), (7, 9)))
        self.assertEqual((neighbours(places=()), neighbours([3])), ((), ()))
        self.assertTrue(all_tuples((rows_of(ROWS, 0), readings_of(ROWS, 0), neighbours([1, 2, 3]))))


if __name__ == "__main__":
    unittest.main()
