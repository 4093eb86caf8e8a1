"""Points [20], [21]: tents, beside all their paths."""

import itertools
import time
import unittest

from plain import ODD, all_tuples, caught, chance, with_part
from wrecktold.errors import Refused
from wrecktold.tents import (
    above_at, can_be_above, check_tent, highest, lowest, many_above, path_at, path_holds, values_at,
)

TENT = (3, 4, 2, 4)
NO_TENTS = [
    *ODD, TENT[:3], (*TENT, 1), (0, 0, 0, 0), (0, 0, 0, 5), (0, 0, -1, 5), (0, 0, 1, -1), (0, 1, 1, 0), (0, 7, 2, 3), (7, 0, 2, 3), (-4, 3, 2, 3),
    *(with_part(TENT, at, bad) for at in range(4) for bad in ODD if bad.__class__ is not int),
]
ABOUT = [check_tent, highest, lowest]
LIMITED = [above_at, can_be_above, many_above]


def paths_of(tent):
    """All paths of a tent of few ticks."""
    first, last, rate, ticks = tent
    paths = [(first,)]
    for tick in range(ticks):
        left = rate * (ticks - tick - 1)
        paths = [
            (*path, value) for path in paths for value in range(path[-1] - rate, path[-1] + rate + 1) if abs(last - value) <= left
        ]
    return paths


def small_tents():
    for rate, ticks in [(1, 0), (1, 1), (1, 2), (1, 5), (1, 6), (2, 1), (2, 3), (2, 4), (3, 3), (5, 2)]:
        for rise in range(-rate * ticks, rate * ticks + 1):
            for first in (0, -3):
                yield first, first + rise, rate, ticks


class Tents(unittest.TestCase):
    def test_the_examples(self):
        self.assertEqual(highest((0, 3, 2, 5)), 6)
        self.assertEqual(values_at((0, 3, 2, 5), 2), (-3, 4))
        self.assertEqual(many_above((3, 4, 2, 4), 2), (2, 5))

    def test_what_is_a_tent(self):
        for tent in [TENT, (0, 0, 1, 0), (5, -5, 5, 2), (0, 6, 2, 3), (6, 0, 2, 3), (-(10 ** 6), 10 ** 6, 1000, 2000)]:
            self.assertEqual(check_tent(list(tent)), tent)
            self.assertEqual(check_tent(value=tent), tent)
        self.assertTrue(all_tuples(check_tent([1, 2, 3, 4])))

    def test_what_is_none_is_refused_by_all(self):
        calls = [(call, ()) for call in ABOUT] + [(path_holds, (None,)), (values_at, (None,)), (path_at, (None, None))]
        calls += [(call, (None,)) for call in LIMITED]
        for call, more in calls:
            for bad in NO_TENTS:
                self.assertIs(caught(Refused, call, bad, *more).at, bad)

    def test_ticks_values_and_limits_are_refused(self):
        for bad in [*ODD, 5, -1]:
            self.assertIs(caught(Refused, values_at, TENT, bad).at, bad)
            self.assertIs(caught(Refused, path_at, TENT, bad, None).at, bad)
        for bad in [*ODD, 6, 0]:
            self.assertIs(caught(Refused, path_at, TENT, 1, bad).at, bad)
        for call in LIMITED:
            for bad in ODD:
                if bad.__class__ is not int:
                    self.assertIs(caught(Refused, call, TENT, bad).at, bad)

    def test_beside_all_paths(self):
        for tent in small_tents():
            paths = paths_of(tent)
            columns = list(zip(*paths))
            self.assertEqual(highest(tent), max(map(max, paths)))
            self.assertEqual(lowest(tent), min(map(min, paths)))
            for tick, column in enumerate(columns):
                low, high = values_at(tent, tick)
                self.assertEqual(sorted(set(column)), list(range(low, high + 1)))
                for value in range(low, high + 1):
                    path = path_at(tent, tick, value)
                    self.assertEqual(path[tick], value)
                    self.assertTrue(path_holds(tent, path))
                    self.assertIn(path, paths)
                for value in (low - 1, high + 1):
                    self.assertEqual(caught(Refused, path_at, tent, tick, value).at, value)

    def test_limits_beside_all_paths(self):
        for tent in small_tents():
            paths = paths_of(tent)
            for limit in range(lowest(tent) - 2, highest(tent) + 2):
                many = [sum(value > limit for value in path) for path in paths]
                self.assertEqual(many_above(tent, limit), (min(many), max(many)))
                above = [[value > limit for value in column] for column in zip(*paths)]
                self.assertEqual(above_at(tent, limit), tuple(tick for tick, told in enumerate(above) if all(told)))
                self.assertEqual(can_be_above(tent, limit), tuple(tick for tick, told in enumerate(above) if any(told)))

    def test_any_value_as_a_path(self):
        tent = (0, 1, 2, 2)
        for path in itertools.product(range(-3, 5), repeat=3):
            self.assertIs(path_holds(tent, list(path)), path in paths_of(tent))
        for value in [*ODD, (0, 1), (0, 1, 1, 1), (0, True, 1), (False, 0, 1), (0, 0, True), (0, None, 1), (0, "1", 1), ((0, 1, 1),)]:
            self.assertIs(path_holds(tent, value), False)
        self.assertIs(path_holds(tent=(5, 5, 1, 0), value=[5]), True)
        self.assertIs(path_holds((5, 5, 1, 0), [6]), False)
        self.assertIs(path_holds((5, 5, 1, 0), []), False)

    def test_more_ticks_never_less(self):
        for rate, rise in itertools.product((1, 2, 3), range(-6, 7)):
            tents = [(1, 1 + rise, rate, ticks) for ticks in range(7, 13)]
            for one, other in zip(tents, tents[1:]):
                self.assertLessEqual(highest(one), highest(other))
                self.assertGreaterEqual(lowest(one), lowest(other))
                for limit in range(-9, 12):
                    least, most = many_above(one, limit)
                    self.assertLessEqual(least, many_above(other, limit)[0])
                    self.assertLessEqual(most, many_above(other, limit)[1])

    def test_tents_of_many_ticks(self):
        dice = chance(51)
        start = time.time()
        for turn in range(30):
            rate, ticks = dice.randint(1, 1000), dice.randint(1, 2000)
            first = dice.randint(-(10 ** 6), 10 ** 6)
            last = first + dice.randint(-rate * ticks, rate * ticks)
            tent = (first, last, rate, ticks)
            rows = [values_at(tent, tick) for tick in range(ticks + 1)]
            for low, high in (rows[0], rows[-1]):
                self.assertEqual(low, high)
            self.assertEqual(highest(tent), max(high for low, high in rows))
            self.assertEqual(lowest(tent), min(low for low, high in rows))
            for column in (0, 1):
                self.assertTrue(path_holds(tent, [row[column] for row in rows]))
            tick = dice.randrange(ticks + 1)
            value = dice.randint(*rows[tick])
            path = path_at(tent, tick, value)
            self.assertTrue(path_holds(tent, path) and path[tick] == value)
            limit = dice.randint(lowest(tent), highest(tent))
            self.assertEqual(above_at(tent, limit), tuple(tick for tick, row in enumerate(rows) if row[0] > limit))
            self.assertEqual(can_be_above(tent, limit), tuple(tick for tick, row in enumerate(rows) if row[1] > limit))
        self.assertLess(time.time() - start, 30)

    def test_by_names_and_as_tuples(self):
        tent = [3, 4, 2, 4]
        self.assertEqual(values_at(tent=tent, tick=0), (3, 3))
        self.assertEqual(path_at(tent=tent, tick=4, value=4)[4], 4)
        self.assertEqual((highest(tent=tent), lowest(tent=tent)), (7, 0))
        told = (above_at(tent=tent, limit=2), can_be_above(tent=tent, limit=2), many_above(tent=tent, limit=2), path_at(tent, 2, 0))
        self.assertEqual(told[:3], ((0, 4), (0, 1, 2, 3, 4), (2, 5)))
        self.assertTrue(all_tuples(told))
        self.assertEqual(tent, [3, 4, 2, 4])


if __name__ == "__main__":
    unittest.main()
