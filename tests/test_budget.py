"""Points [64], [65], [66]: how many rows come in how many ticks, by all times of few frames."""

import itertools
import unittest

from plain import ODD, all_tuples, caught, chance, farthest, soon, some_range, with_part
from plain_courses import own_holds
from wrecktold.budget import budget, covered, fastest, kept_for, least_ticks, most_rows
from wrecktold.clocks import course_holds
from wrecktold.errors import BadSetup, Refused
from wrecktold.setups import check_rows

SETUP = (((2, 3, 0, 3, 2, 5), (3, 3, 1, 1, 1, 1)), (1, 2), ((0, None),))
NO_NUMBERS = [bad for bad in ODD if bad.__class__ is not int] + [-1, -(10 ** 40), "5", (5,), True, False, 5.0]
CALLS = [(most_rows, (None,)), (least_ticks, (None,)), (fastest, (None,)), (covered, (None,)), (kept_for, (None,)), (budget, (None, None))]


def small_setup(dice):
    """A setup by chance whose frames come soon one behind another."""
    sources = []
    for _ in range(dice.randint(1, 3)):
        low, high = some_range(dice, 1, 3)
        gap, pause = some_range(dice, 1, 3)
        least = dice.randint(0, 3)
        sources.append((low, high, least, least + dice.randrange(low * gap), gap, pause))
    return tuple(sources), (1, dice.randint(1, 3)), ((0, None),)


def can_come(setup, counts, ticks):
    """Whether so many frames of each source can be heard in so many ticks, whatever their times."""
    edges = []
    hearings = []
    for (low, high, least, most, gap, _), count in zip(setup[0], counts):
        for at in range(count):
            sent = 2 * len(hearings)
            edges += [(sent, sent + 1, most), (sent + 1, sent, -least)]
            if at:
                edges += [(sent, sent - 2, -low * gap)]
            hearings.append(sent + 1)
    edges += [(one, other, ticks) for one in hearings for other in hearings]
    return farthest((2 * len(hearings), edges)) is not None


def own_most(setup, ticks):
    """The greatest number of rows in so many ticks: of all numbers of frames that the sources can have alone."""
    alone = []
    for source in setup[0]:
        count = 1
        while can_come(((source,), *setup[1:]), (count + 1,), ticks):
            count += 1
        alone.append(range(count + 1))
    return next(sum(counts) for counts in sorted(itertools.product(*alone), key=sum, reverse=True) if can_come(setup, counts, ticks))


class Rows(unittest.TestCase):
    def test_the_examples(self):
        self.assertEqual([most_rows(SETUP, ticks) for ticks in (0, 1, 3, 5, 6)], [2, 3, 4, 5, 6])
        self.assertEqual((least_ticks(SETUP, 5), covered(SETUP, 3), kept_for(SETUP, 4)), (5, 2, 4))
        rows, course = budget(SETUP, 2, 1)
        self.assertEqual((budget(SETUP, 2, 0), len(rows), course[0][1], course[-1][1]), (None, 3, 0, 1))
        self.assertEqual((most_rows(setup=SETUP, ticks=3), least_ticks(setup=SETUP, many=5)), (4, 5))
        self.assertEqual((covered(setup=SETUP, kept=3), kept_for(setup=SETUP, ticks=4), budget(setup=SETUP, kept=2, ticks=0)), (2, 4, None))
        self.assertEqual(fastest(setup=SETUP, many=3)[1][-1][1], 1)

    def test_by_all_times_of_few_frames(self):
        for seed in range(40):
            setup = small_setup(chance(seed))
            for ticks in range(6):
                self.assertEqual(most_rows(setup, ticks), own_most(setup, ticks))

    def test_all_the_rest_by_that(self):
        for seed in range(100):
            dice = chance(seed)
            setup = small_setup(dice)
            rows = [most_rows(list(setup), ticks) for ticks in range(30)]
            own = [sum((ticks + most - least) // (low * gap) + 1 for low, _, least, most, gap, _ in setup[0]) for ticks in range(30)]
            self.assertEqual(rows, own)
            for many in range(1, rows[-1] + 1):
                least = min(ticks for ticks in range(30) if rows[ticks] >= many)
                self.assertEqual(least_ticks(setup, many), least)
            for kept in range(1, rows[-1]):
                cover = max([ticks for ticks in range(30) if rows[ticks] <= kept], default=-1)
                self.assertEqual(covered(setup, kept), cover)
                for ticks in {0, 1, max(0, cover), cover + 1, cover + 5} if kept < 9 or dice.random() < 0.05 else ():
                    self.look_at_budget(setup, kept, ticks, ticks <= cover)
            self.assertEqual([kept_for(setup, ticks) for ticks in range(30)], rows)

    def look_at_budget(self, setup, kept, ticks, covers):
        told = budget(setup, kept, ticks)
        if covers:
            self.assertIsNone(told)
        else:
            self.look_at_fastest(setup, kept + 1, told)
            self.assertLessEqual(told[1][-1][1], ticks)

    def look_at_fastest(self, setup, many, told):
        """Looks at rows that are heard in the least ticks."""
        rows, course = told
        self.assertTrue(all_tuples(told))
        self.assertEqual((len(rows), len(course)), (many, many))
        self.assertEqual(check_rows(setup, rows), rows)
        self.assertTrue(all(row[6] == () for row in rows))
        self.assertTrue(course_holds(setup, rows, course))
        self.assertEqual((course[0][1], course[-1][1]), (0, least_ticks(setup, many)))

    def test_the_fastest(self):
        for seed in range(60):
            setup = small_setup(chance(seed))
            for many in range(1, 12):
                told = fastest(setup, many)
                self.look_at_fastest(setup, many, told)
                self.assertTrue(own_holds(setup, *told))

    def test_one_row_takes_no_time(self):
        setup = (((1, 1, 5, 5, 3, 4),), (1, 1), ((0, None),))
        self.assertEqual((least_ticks(setup, 1), most_rows(setup, 0), most_rows(setup, 2), most_rows(setup, 3)), (0, 1, 1, 2))
        self.assertEqual(fastest(setup, 1)[1], ((-5, 0),))
        self.assertEqual((covered(setup, 1), kept_for(setup, 2), budget(setup, 1, 2)), (2, 1, None))
        eight = (((1, 1, 0, 0, 1, 1),) * 8, (1, 1), ((0, None),))
        self.assertEqual((most_rows(eight, 0), least_ticks(eight, 8), least_ticks(eight, 9)), (8, 0, 1))
        self.assertEqual([covered(eight, kept) for kept in (1, 7, 8, 15, 16, 199)], [-1, -1, 0, 0, 1, 23])
        self.look_at_fastest(eight, 8, fastest(eight, 8))


class Limits(unittest.TestCase):
    def test_the_slowest_and_the_greatest(self):
        slow = (((100, 100, 0, 1000, 1000, 1000),), (1, 1), ((0, None),))
        told = soon(self, 5, fastest, slow, 200)
        Rows.look_at_fastest(self, slow, 200, told)
        self.assertEqual(least_ticks(slow, 200), 199 * 10 ** 5 - 1000)
        self.assertEqual((covered(slow, 199), most_rows(slow, 10 ** 7), kept_for(slow, 10 ** 7)), (199 * 10 ** 5 - 1001, 101, 101))
        wide = (tuple((100, 100, 0, 1000 - at, 1000 - at, 1000) for at in range(8)), (1, 100), ((0, None),))
        for many in (1, 8, 9, 199, 200):
            Rows.look_at_fastest(self, wide, many, soon(self, 5, fastest, wide, many))
        fast = (((1, 1, 0, 0, 1, 1),) * 8, (1, 100), ((0, None),))
        self.assertEqual(soon(self, 5, most_rows, fast, 10 ** 7), 8 * (10 ** 7 + 1))
        self.assertIsNone(budget(fast, 199, 23))
        Rows.look_at_fastest(self, fast, 200, budget(fast, 199, 24))
        self.assertEqual(len(budget(fast, 100, 10 ** 7)[0]), 101)


class Errors(unittest.TestCase):
    def test_setups(self):
        for call, more in CALLS:
            self.assertEqual(caught(BadSetup, call, None, *more).at, -1)
            self.assertEqual(caught(BadSetup, call, with_part(SETUP, 1, (2, 1)), *more).at, 1)
            self.assertEqual(caught(BadSetup, call, with_part(with_part(SETUP, 1, (2, 3)), 2, ()), *more).at, 2)
            bad = with_part(SETUP, 1, (2, 3))
            self.assertIs(caught(Refused, call, bad, *more).at, bad)

    def test_numbers(self):
        for call, more in [(most_rows, ()), (kept_for, ()), (budget, (3,))]:
            for bad in NO_NUMBERS:
                self.assertIs(caught(Refused, call, SETUP, *more, bad).at, bad)
        for call in (least_ticks, fastest):
            for bad in [*NO_NUMBERS, 0, 201, 10 ** 40]:
                self.assertIs(caught(Refused, call, SETUP, bad).at, bad)
        for call, more in [(covered, ()), (budget, (None,))]:
            for bad in [*NO_NUMBERS, 0, 200, 10 ** 40]:
                self.assertIs(caught(Refused, call, SETUP, bad, *more).at, bad)
        self.assertEqual(least_ticks(SETUP, 200), covered(SETUP, 199) + 1)


if __name__ == "__main__":
    unittest.main()
