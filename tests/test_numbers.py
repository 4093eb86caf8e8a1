"""Points [17], [18], [19]: how many frames can have been sent between those that are told."""

import itertools
import time
import unittest

from plain import ODD, all_tuples, caught, chance, flight, some_setup, with_part
from wrecktold.errors import BadRows, BadSetup, Refused
from wrecktold.numbers import (
    ahead_counts, counts, doubt_span, false_pair, missing, missing_sums, run_between, run_holds, run_to,
)

SOURCE = (1, 1, 0, 0, 2, 5)
SETUP = ([SOURCE], (1, 1), [(0, None)])
ROWS = [(0, 0, 0, 0, 4, 50, ()), (0, 9, 0, 0, 7, 59, ()), (0, 30, 0, 0, 7, 80, ())]
NO_SOURCES = [*ODD, SOURCE[:5], (*SOURCE, 1), with_part(SOURCE, 4, 0), with_part(SOURCE, 0, True), with_part(SOURCE, 3, 2), (1, 1, 0, 0, 5, 2)]
NO_MARKS = [
    *(value for value in ODD if value != (0, 0)), (0,), (0, 0, 0), (256, 0), (-1, 0), (0, -1), (0, 10 ** 6 + 1), (True, 0), (0, False),
    (None, 0), ("0", 0), [0, [0]],
]


def clocked(gap, pause):
    return 1, 1, 0, 0, gap, pause


def plain_counts(source, one, other):
    """Each number tried alone."""
    stamps = other[1] - one[1]
    return tuple(
        d for d in range(1, stamps + 1)
        if (one[0] + d) % 256 == other[0] and source[4] * d <= stamps <= source[5] * d
    )


def plain_run(source, marks):
    return all(
        other[0] == (one[0] + 1) % 256 and source[4] <= other[1] - one[1] <= source[5] for one, other in zip(marks, marks[1:])
    )


def some_source(dice):
    gap = dice.randint(1, 9)
    return clocked(gap, gap + dice.choice((0, 1, 3, 9, 40)))


class Counts(unittest.TestCase):
    def test_the_examples(self):
        self.assertEqual(counts(SOURCE, (250, 100), (3, 130)), (9,))
        self.assertEqual(counts(SOURCE, (0, 0), (0, 1500)), (512,))
        self.assertEqual(ahead_counts(SOURCE, (7, 600)), (7, 263))
        self.assertEqual(doubt_span(SOURCE), 854)
        self.assertEqual(run_between(SOURCE, (255, 10), (2, 20), 3), ((255, 10), (0, 13), (1, 16), (2, 20)))
        self.assertIs(run_holds(SOURCE, [(255, 10), (0, 16)]), False)
        self.assertEqual(missing(SETUP, ROWS), ((0, 1, (2,)), (1, 2, ())))
        self.assertEqual(missing_sums(SETUP, ROWS[:2], 0), (2,))

    def test_beside_a_plain_trial_of_each_number(self):
        dice = chance(31)
        many = {}
        for turn in range(1500):
            source = some_source(dice)
            one = (dice.randrange(256), dice.randrange(1000))
            other = ((one[0] + dice.randrange(9)) % 256, one[1] + dice.choice((1, 2, 5, 30, 256, 700, 2600, 9000)) + dice.randrange(5))
            told = counts(source, one, list(other))
            self.assertEqual(told, plain_counts(source, one, other))
            self.assertTrue(all_tuples(told))
            many[min(len(told), 2)] = True
        self.assertEqual(sorted(many), [0, 1, 2])

    def test_edges_of_counts(self):
        for gap, pause, number, stamps, told in [
            (2, 5, 1, 1, ()), (2, 5, 1, 2, (1,)), (2, 5, 1, 5, (1,)), (2, 5, 1, 6, ()), (2, 5, 2, 3, ()), (2, 5, 2, 4, (2,)),
            (2, 5, 2, 10, (2,)), (2, 5, 2, 11, ()), (1, 1, 0, 256, (256,)), (1, 1, 0, 255, ()), (1, 1000, 0, 512, (256, 512)),
            (1, 1000, 0, 255, ()), (1000, 1000, 232, 10 ** 6, (1000,)), (1, 1000, 0, 10 ** 6, tuple(range(1024, 10 ** 6 + 1, 256))),
        ]:
            self.assertEqual(counts(clocked(gap, pause), (0, 0), (number, stamps)), told)
        self.assertEqual(counts(source=list(SOURCE), one=[255, 0], other=[0, 3]), (1,))

    def test_which_error_comes_first(self):
        for bad in NO_SOURCES:
            for call, more in [(counts, (None, None)), (ahead_counts, (None,)), (doubt_span, ()), (run_holds, (None,)),
                               (run_between, (None, None, None)), (run_to, (None, None))]:
                self.assertIs(caught(Refused, call, bad, *more).at, bad)
        for bad in NO_MARKS:
            self.assertIs(caught(Refused, counts, SOURCE, bad, None).at, bad)
            self.assertIs(caught(Refused, counts, SOURCE, (0, 0), bad).at, bad)
            self.assertIs(caught(Refused, run_between, SOURCE, bad, None, None).at, bad)
            self.assertIs(caught(Refused, run_between, SOURCE, (0, 0), bad, None).at, bad)
            self.assertIs(caught(Refused, ahead_counts, SOURCE, bad).at, bad)
            self.assertIs(caught(Refused, run_to, SOURCE, bad, None).at, bad)
        for stamp in (0, 5, 6):
            other = [1, stamp]
            self.assertIs(caught(Refused, counts, SOURCE, (0, 6), other).at, other)
            self.assertIs(caught(Refused, run_between, SOURCE, (0, 6), other, None).at, other)

    def test_how_many_ahead(self):
        dice = chance(32)
        for turn in range(300):
            source = some_source(dice)
            one = (dice.choice((0, 1, 5, 255)), dice.choice((0, 3, 400, 3000)) + dice.randrange(9))
            plain = tuple(
                d for d in range(one[1] + 1)
                if d % 256 == one[0] and any(source[4] * d <= one[1] - first <= source[5] * d for first in range(one[1] + 1))
            )
            self.assertEqual(ahead_counts(source, one), plain)
        self.assertEqual(ahead_counts(SOURCE, (0, 0)), (0,))
        self.assertEqual(ahead_counts(SOURCE, (1, 1)), ())
        self.assertEqual(ahead_counts(source=SOURCE, one=[1, 2]), (1,))
        self.assertEqual(ahead_counts(clocked(1, 1), (0, 256)), (0, 256))

    def test_doubt_beside_a_plain_search(self):
        for gap, pause in [(2, 5), (1, 2), (1, 1000), (3, 4), (1, 513), (1, 257), (1, 256), (7, 9), (2, 3)]:
            source = clocked(gap, pause)
            plain = next(
                stamps for stamps in range(1, 10 ** 6)
                if any(gap * (d + 256) <= stamps <= pause * d for d in range(-(-stamps // pause), stamps // gap))
            )
            self.assertEqual(doubt_span(source), plain)
            self.assertTrue(any(len(plain_counts(source, (0, 0), (number, plain))) == 2 for number in range(256)))
            self.assertFalse(any(len(plain_counts(source, (0, 0), (number, plain - 1))) > 1 for number in range(256)))

    def test_doubt_up_to_a_million(self):
        # 256 gap (1 + gap / (pause - gap)): the first is beyond 10 ** 6, the others around it.
        for gap, pause, told in [
            (5, 5, None), (1000, 1000, None), (100, 101, None), (62, 63, 999936), (63, 64, None), (1, 1000, 257), (500, 1000, 256000),
            (999, 1000, None), (62, 1000, 62 * 273),
        ]:
            self.assertEqual(doubt_span(clocked(gap, pause)), told)
            self.assertEqual(doubt_span(source=list(clocked(gap, pause))), told)


class Runs(unittest.TestCase):
    def test_whether_a_run_holds(self):
        for value in [(), [(0, 0)], ((255, 10), (0, 12), (1, 17)), [[7, 9], (8, 11)]]:
            self.assertIs(run_holds(SOURCE, value), True)
        for value in [
            ((0, 0), (1, 1)), ((0, 0), (1, 6)), ((0, 0), (2, 4)), ((0, 0), (0, 2)), ((255, 0), (256, 2)), ((1, 5), (2, 3)), ((0, 0), (1, 2), (3, 4)),
        ]:
            self.assertIs(run_holds(SOURCE, value), False)
        for bad in NO_MARKS:
            self.assertIs(run_holds(SOURCE, [bad]), False)
            self.assertIs(run_holds(SOURCE, [(0, 0), (1, 2), bad]), False)
        for value in ODD:
            self.assertIs(run_holds(source=SOURCE, value=value), value in ([], ()))

    def test_runs_told_for_each_count_hold(self):
        dice = chance(33)
        tried = 0
        for turn in range(200):
            source = some_source(dice)
            one = [dice.randrange(256), dice.randrange(50)]
            other = [(one[0] + dice.randrange(30)) % 256, one[1] + dice.choice((20, 90, 1300)) + dice.randrange(30)]
            for count in counts(source, one, other):
                tried += 1
                run = run_between(source, one, other, count)
                self.assertEqual((run[0], run[-1], len(run)), (tuple(one), tuple(other), count + 1))
                self.assertTrue(run_holds(source, run) and plain_run(source, run) and all_tuples(run))
            for count in ahead_counts(source, other):
                run = run_to(source, other, count)
                self.assertEqual((run[0][0], run[-1], len(run)), (0, tuple(other), count + 1))
                self.assertTrue(run[0][1] >= 0 and run_holds(source, run) and plain_run(source, run) and all_tuples(run))
        self.assertGreater(tried, 50)

    def test_a_count_that_is_none(self):
        for bad in [*ODD, 0, 1, 8, 10, 265]:
            self.assertIs(caught(Refused, run_between, SOURCE, (250, 100), (3, 130), bad).at, bad)
        for bad in [*ODD, 0, 6, 8, 519]:
            self.assertIs(caught(Refused, run_to, SOURCE, (7, 600), bad).at, bad)
        self.assertIs(caught(Refused, run_between, SOURCE, (0, 0), (1, 2), True).at, True)
        self.assertIs(caught(Refused, run_to, SOURCE, (0, 0), False).at, False)
        self.assertEqual(run_to(source=SOURCE, one=[0, 9], count=0), ((0, 9),))
        self.assertEqual(run_between(source=SOURCE, one=(0, 0), other=(1, 2), count=1), ((0, 0), (1, 2)))

    def test_no_right_count_is_left_out(self):
        source = clocked(2, 3)
        ends = {}
        for long in range(1, 6):
            for steps in itertools.product((2, 3), repeat=long):
                ends.setdefault(sum(steps), []).append(long)
        for stamps in range(1, 16):
            for number in range(8):
                told = counts(source, (254, 7), ((254 + number) % 256, 7 + stamps))
                self.assertEqual([d for d in told if d < 6], sorted({d for d in ends.get(stamps, ()) if d == number}))

    def test_four_thousand_frames_soon(self):
        start = time.time()
        run = run_between(clocked(1, 300), (0, 0), (160, 900000), 4000)
        self.assertTrue(run_holds(clocked(1, 300), run[1:]))
        self.assertEqual(len(run_to(clocked(3, 7), (160, 900000), 4000)), 4001)
        self.assertLess(time.time() - start, 10)


class Rows(unittest.TestCase):
    def test_by_source_and_then_by_place(self):
        setup = ((clocked(1, 9), clocked(2, 2)), (1, 1), ((0, None),))
        rows = (
            (0, 0, 1, 0, 5, 10, ()), (0, 1, 0, 2, 1, 7, ()), (0, 2, 1, 0, 6, 12, ()), (0, 3, 0, 2, 3, 12, ()), (0, 4, 1, 1, 0, 0, ()),
            (0, 5, 0, 3, 9, 0, ()), (0, 6, 1, 1, 4, 8, ()), (0, 7, 0, 3, 9, 300, ()), (0, 8, 1, 1, 4, 8 + 512, ()),
        )
        told = ((1, 3, (1,)), (5, 7, (255,)), (0, 2, (0,)), (4, 6, (3,)), (6, 8, (255,)))
        self.assertEqual(missing(setup=setup, rows=rows), told)
        self.assertIsNone(false_pair(setup, rows))
        self.assertEqual(missing_sums(setup, rows, 0), (256,))
        self.assertEqual(missing_sums(setup, rows, 1), (258,))

    def test_all_of_many_sources(self):
        setup = ((clocked(1, 9),) * 8, (1, 1), ((0, None),))
        rows = [(0, at, at % 8, 0, at // 8, 9 * (at // 8), ()) for at in range(16)]
        self.assertEqual(missing(setup, rows), tuple((source, source + 8, (0,)) for source in range(8)))
        self.assertEqual(false_pair(setup, [*rows[:15], with_part(rows[15], 4, 99)]), (7, 15))

    def test_false_pairs(self):
        self.assertEqual(false_pair(SETUP, ROWS), (1, 2))
        self.assertIsNone(false_pair(setup=SETUP, rows=ROWS[:2]))
        self.assertIsNone(false_pair(SETUP, ()))
        setup = ((SOURCE, SOURCE), (1, 1), ((0, None),))
        rows = [(0, 0, 1, 0, 4, 50, ()), (0, 1, 1, 0, 4, 59, ()), (0, 2, 0, 0, 4, 50, ()), (0, 3, 0, 0, 4, 59, ())]
        self.assertEqual(false_pair(setup, rows), (2, 3))
        self.assertEqual(missing(setup, rows), ((2, 3, ()), (0, 1, ())))

    def test_sums_of_all_choices(self):
        dice = chance(34)
        several = 0
        for turn in range(300):
            gap = dice.randint(1, 3)
            source = clocked(gap, gap + dice.choice((1, 5, 100)))
            setup = ((clocked(1, 1), source), (1, 1), ((0, None),))
            rows, boot, stamp = [], 0, 0
            for at in range(5):
                boot, stamp = (boot + 1, 5) if dice.random() < 0.2 else (boot, stamp + dice.choice((3, 40, 600, 1400)) + dice.randrange(9))
                rows.append((0, at, 1, boot, dice.randrange(3), stamp, ()))
            lots = [few for one, other, few in missing(setup, rows)]
            told = missing_sums(setup, rows, 1)
            self.assertEqual(told, tuple(sorted({sum(choice) for choice in itertools.product(*lots)})))
            several += len(told) > 2
            self.assertEqual(missing_sums(setup, rows, 0), (0,))
        self.assertGreater(several, 10)

    def test_no_neighbours_and_false_ones(self):
        self.assertEqual(missing_sums(SETUP, (), 0), (0,))
        self.assertEqual(missing_sums(SETUP, ROWS[:1], 0), (0,))
        self.assertEqual(missing_sums(SETUP, ROWS, 0), ())
        self.assertEqual(missing(SETUP, ROWS[:1]), ())
        boots = [(0, at, 0, at, 0, 0, ()) for at in range(3)]
        self.assertEqual((missing(SETUP, boots), missing_sums(setup=SETUP, rows=boots, source=0)), ((), (0,)))

    def test_what_truly_was_is_among_it(self):
        for seed in range(100):
            dice = chance(seed)
            setup = some_setup(dice)
            rows, course = flight(dice, setup, 8)
            self.assertIsNone(false_pair(setup, rows))
            for one, other, few in missing(setup, rows):
                self.assertIn((rows[other][4] - rows[one][4]) % 256 - 1, few)

    def test_errors_in_their_order(self):
        for call, more in [(missing, ()), (false_pair, ()), (missing_sums, (None,))]:
            self.assertEqual(caught(BadSetup, call, None, None, *more).at, -1)
            self.assertEqual(caught(BadRows, call, SETUP, [*ROWS, None], *more).at, 3)
            self.assertEqual(caught(BadRows, call, SETUP, None, *more).at, -1)
        for bad in [*ODD, 1, -1]:
            self.assertIs(caught(Refused, missing_sums, SETUP, ROWS, bad).at, bad)

    def test_two_hundred_rows_soon(self):
        setup = ((clocked(1, 1000),), (1, 1), ((0, None),))
        rows = [(0, at, 0, at // 2, 0, 10 ** 6 * (at % 2), ()) for at in range(200)]
        start = time.time()
        told = missing(setup, rows)
        self.assertEqual({len(few) for one, other, few in told}, {len(range(1024, 10 ** 6 + 1, 256))})
        self.assertEqual(missing_sums(setup, rows, 0), tuple(range(1023 * 100, sum(few[-1] for _, _, few in told) + 1, 256)))
        self.assertLess(time.time() - start, 30)


if __name__ == "__main__":
    unittest.main()
