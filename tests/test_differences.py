"""Points [8], [9], [10], [11]: systems, their answers, and what these have in common."""

import itertools
import time
import unittest

from plain import NO_EDGES, ODD, all_tuples, caught, chance, deep, farthest, keeps, some_system, wide_system
from wrecktold import differences
from wrecktold.differences import (
    check_system, has_answer, implied, is_edge, met, ring_holds, solved, solved_with, span, table, thinned, values_hold,
    way, way_holds, with_edges, within,
)
from wrecktold.errors import Refused

SYSTEM = (3, ((0, 1, 2), (1, 2, -1), (2, 0, 0), (0, 2, 5)))
RING = (2, ((0, 1, 2), (1, 0, -3)))
NO_SYSTEMS = [
    *ODD, (3,), (3, (), ()), (0, ()), (-1, ()), (1001, ()), (True, ()), (None, ()), ("3", ()), (3, None), (3, 0), (3, "a"),
    (3, (0, 1, 2)), ([3], ()), *((3, [(0, 1, 2), bad]) for bad in NO_EDGES),
]
SOME = [edge for edge in itertools.product(range(3), range(3), range(-2, 3))]


class Systems(unittest.TestCase):
    def test_edges(self):
        self.assertIs(is_edge(3, (0, 2, -5)), True)
        self.assertIs(is_edge(3, [2, 2, 10 ** 30]), True)
        self.assertIs(is_edge(1000, (999, 0, 0)), True)
        self.assertIs(is_edge(many=2, value=(0, 2, 0)), False)
        for value in NO_EDGES:
            self.assertIs(is_edge(3, value), False)

    def test_systems_are_told_as_tuples(self):
        self.assertEqual(check_system([3, [[0, 1, 2], (2, 2, -7)]]), (3, ((0, 1, 2), (2, 2, -7))))
        self.assertEqual(check_system((1, [])), (1, ()))
        self.assertEqual(check_system(value=(1000, ())), (1000, ()))
        self.assertTrue(all_tuples(check_system([3, [[0, 1, 2]]])))

    def test_what_is_no_system_is_refused_by_all(self):
        calls = [
            (check_system, ()), (values_hold, ((),)), (ring_holds, ((),)), (way_holds, (None, True, ())), (solved, ()), (has_answer, ()),
            (with_edges, (None,)), (solved_with, (None,)), (span, (None, 0)), (way, (None, 0)), (met, (None, 0, 0)),
            (table, ()), (implied, (None,)), (within, (None,)), (thinned, ()),
        ]
        for call, more in calls:
            for value in NO_SYSTEMS:
                self.assertIs(caught(Refused, call, value, *more).at, value)

    def test_one_without_an_answer_is_refused_ahead_of_the_rest(self):
        for call, more in [(span, (None, 0)), (way, (7, 0)), (met, (0, 9, None)), (table, ()), (implied, (None,)), (thinned, ())]:
            self.assertIs(caught(Refused, call, RING, *more).at, RING)

    def test_variables_are_refused_in_their_order(self):
        for call, more in [(span, ()), (way, ()), (met, (0,)), (met, (None,)), (way_holds, ((),)), (way_holds, (None,))]:
            for bad in [*ODD, 3, -1]:
                self.assertIs(caught(Refused, call, SYSTEM, bad, None, *more).at, bad)
                self.assertIs(caught(Refused, call, SYSTEM, 2, bad, *more).at, bad)
        self.assertEqual(caught(Refused, way_holds, RING, 0, 2, ()).at, 2)

    def test_values_and_edges_are_refused(self):
        for bad in [value for value in ODD if value.__class__ is not int]:
            self.assertIs(caught(Refused, met, SYSTEM, 0, 1, bad).at, bad)
        for bad in NO_EDGES:
            self.assertIs(caught(Refused, implied, SYSTEM, bad).at, bad)
            edges = [(0, 1, 2), bad]
            self.assertIs(caught(Refused, with_edges, SYSTEM, edges).at, edges)
            self.assertIs(caught(Refused, solved_with, (3, RING[1]), edges).at, edges)
        for bad in ODD:
            if not (isinstance(bad, (list, tuple)) and not bad):
                self.assertIs(caught(Refused, with_edges, SYSTEM, bad).at, bad)

    def test_within_refuses_the_second_that_is_none_of_as_many_variables(self):
        for one in (SYSTEM, (3, RING[1])):
            for bad in [*NO_SYSTEMS, (2, ()), (4, ()), (2, ((5, 5, 5),))]:
                self.assertIs(caught(Refused, within, one, bad).at, bad)
        self.assertIs(caught(Refused, within, (1, ()), (True, ())).at.__class__, tuple)

    def test_any_value_as_an_answer(self):
        self.assertIs(values_hold(SYSTEM, (-1, 0, -1)), True)
        self.assertIs(values_hold(SYSTEM, [99, 100, 99]), True)
        self.assertIs(values_hold(SYSTEM, (-1, 0, 0)), False)
        self.assertIs(values_hold((1, ()), value=(True,)), False)
        self.assertIs(values_hold((1, ()), (10 ** 50,)), True)
        for value in [*ODD, (-1, 0), (-1, 0, -1, -1), (-1, False, -1), (-1, "0", -1), (-1, None, -1), deep(50)]:
            self.assertIs(values_hold(SYSTEM, value), False)
        self.assertIs(values_hold(RING, (0, 0)), False)

    def test_with_edges_behind_its_own(self):
        self.assertEqual(with_edges((2, [[0, 1, 1]]), [[1, 0, 5]]), (2, ((0, 1, 1), (1, 0, 5))))
        self.assertEqual(with_edges(system=RING, edges=()), RING)
        self.assertEqual(solved_with((2, [[0, 1, 1]]), [[1, 0, -2]])[0], "ring")
        self.assertTrue(ring_holds((2, [[0, 1, 1], (1, 0, -2)]), solved_with((2, [[0, 1, 1]]), [[1, 0, -2]])[1]))
        self.assertEqual(solved_with((2, [[0, 1, 1]]), [[1, 0, -1]]), ("values", (-1, 0)))


class Answers(unittest.TestCase):
    def test_the_examples(self):
        self.assertEqual(solved(SYSTEM), ("values", (-1, 0, -1)))
        self.assertEqual(solved((1, ((0, 0, -1),))), ("ring", (0,)))

    def test_small_systems(self):
        self.assertEqual(solved((1, ())), ("values", (0,)))
        self.assertEqual(solved((1, [(0, 0, 0)])), ("values", (0,)))
        self.assertEqual(solved((3, [(0, 1, -4), (1, 2, -4)])), ("values", (0, -4, -8)))
        self.assertEqual(solved((2, [(0, 1, 10 ** 9), (1, 0, -(10 ** 9))])), ("values", (-(10 ** 9), 0)))

    def test_one_of_the_two_is_there_and_never_both(self):
        dice = chance(11)
        rings = 0
        for turn in range(1500):
            system = some_system(dice)
            many, edges = system
            word, told = solved(system)
            self.assertEqual(word == "ring", farthest(system) is None)
            self.assertEqual(has_answer(system), word == "values")
            if word == "ring":
                rings += 1
                self.assertTrue(ring_holds(system, told))
                self.assertTrue(all_tuples(told))
            else:
                self.assertTrue(values_hold(system, told))
        self.assertGreater(rings, 200)

    def test_the_answer_is_the_greatest_in_every_variable_at_once(self):
        dice = chance(12)
        for turn in range(300):
            system = some_system(dice, 3, 5, -2, 3)
            many, edges = system
            answers = [values for values in itertools.product(range(-6, 1), repeat=many) if keeps(edges, values)]
            word, told = solved(system)
            if word == "values":
                self.assertEqual(told, tuple(max(column) for column in zip(*answers)))

    def test_rings(self):
        system = (3, ((0, 1, -1), (1, 0, 0), (1, 2, 0), (2, 0, 0), (1, 1, -1), (0, 1, 5)))
        for value in [(0, 1), [1, 0], (4,), (0, 2, 3), (3, 0, 2), (2, 3, 0), (0, 4, 1)]:
            self.assertIs(ring_holds(system, value), True)
        for value in [*ODD, (0,), (1, 2), (0, 1, 0, 1), (4, 4), (5, 1), (0, 6), (0, True), (False, 1), (0, -5), (0, None), (2, 3)]:
            self.assertIs(ring_holds(system, value), False)
        self.assertIs(ring_holds((1, ((0, 0, 0),)), value=(0,)), False)

    def test_every_row_of_numbers_as_a_ring(self):
        dice = chance(13)
        for turn in range(40):
            system = some_system(dice, 3, 4, -2, 2)
            edges = system[1]
            for long in range(4):
                for value in itertools.product(range(-1, len(edges) + 1), repeat=long):
                    right = bool(value) and len(set(value)) == long and all(0 <= at < len(edges) for at in value)
                    right = right and all(edges[one][1] == edges[other][0] for one, other in zip(value, value[1:] + value[:1]))
                    self.assertIs(ring_holds(system, value), right and sum(edges[at][2] for at in value) < 0)

    def test_ways(self):
        self.assertIs(way_holds(SYSTEM, 0, 2, (0, 1)), True)
        self.assertIs(way_holds(SYSTEM, 0, 2, [3]), True)
        self.assertIs(way_holds(SYSTEM, 0, 2, (0, 1, 2, 3)), True)
        self.assertIs(way_holds(SYSTEM, 1, 1, ()), True)
        self.assertIs(way_holds(RING, tail=0, head=0, value=(0, 1, 0, 1)), True)
        for value in [*ODD, (0,), (1, 0), (0, 2), (3, 3), (4,), (0, True), (0, 1.0), (0, -3), (0, None)]:
            self.assertIs(way_holds(SYSTEM, 0, 2, value), False)
        self.assertIs(way_holds(SYSTEM, 0, 1, ()), False)


class Distances(unittest.TestCase):
    def test_the_examples(self):
        self.assertEqual(span(SYSTEM, 0, 1), (1, 2))
        self.assertIsNone(met(SYSTEM, 0, 1, 3))
        self.assertIs(implied(SYSTEM, (0, 2, 1)), True)
        self.assertEqual(thinned(SYSTEM), (0, 1, 2))
        self.assertEqual(table((2, ((0, 1, 4),))), ((0, 4), (None, 0)))
        self.assertIs(within(SYSTEM, (3, [(0, 2, 1)])), True)

    def test_beside_plain_distances(self):
        dice = chance(14)
        tried = 0
        for turn in range(600):
            system = some_system(dice, 6, 10, -3, 8)
            many, edges = system
            far = farthest(system)
            if far is None:
                continue
            tried += 1
            self.assertEqual(table(system), tuple(map(tuple, far)))
            one, other = dice.randrange(many), dice.randrange(many)
            back = far[other][one]
            self.assertEqual(span(system, one, other), (None if back is None else -back, far[one][other]))
            told = way(system, one, other)
            if far[one][other] is None:
                self.assertIsNone(told)
            else:
                self.assertTrue(way_holds(system, one, other, told))
                self.assertEqual(sum(edges[at][2] for at in told), far[one][other])
                self.assertTrue(all_tuples(told))
        self.assertGreater(tried, 200)

    def test_a_variable_and_itself(self):
        self.assertEqual(span(SYSTEM, 1, 1), (0, 0))
        self.assertEqual(way(SYSTEM, 1, 1), ())
        self.assertTrue(values_hold(SYSTEM, met(SYSTEM, 1, 1, 0)))
        self.assertIsNone(met(SYSTEM, 1, 1, 1))
        self.assertIs(implied(SYSTEM, (1, 1, 0)), True)
        self.assertIs(implied(SYSTEM, (1, 1, -1)), False)

    def test_no_bound(self):
        self.assertEqual(span((2, ()), 0, 1), (None, None))
        self.assertEqual(span((2, [(0, 1, 4)]), 0, 1), (None, 4))
        self.assertEqual(span(system=(2, [(0, 1, 4)]), one=1, other=0), (-4, None))
        self.assertIsNone(way((2, [(0, 1, 4)]), 1, 0))
        for value in (4, -(10 ** 40)):
            told = met((2, [(0, 1, 4)]), 0, 1, value)
            self.assertEqual(told[1] - told[0], value)

    def test_met_just_from_the_least_to_the_greatest(self):
        dice = chance(15)
        for turn in range(300):
            system = some_system(dice, 4, 7, -2, 4)
            if farthest(system) is None:
                continue
            one, other = dice.randrange(system[0]), dice.randrange(system[0])
            least, greatest = span(system, one, other)
            for value in range(-12, 13):
                told = met(system, one, other, value)
                inside = (least is None or least <= value) and (greatest is None or value <= greatest)
                self.assertEqual(told is not None, inside)
                if inside:
                    self.assertTrue(values_hold(system, told))
                    self.assertEqual(told[other] - told[one], value)

    def test_all_answers_beside_one_another(self):
        dice = chance(16)
        for turn in range(60):
            system = some_system(dice, 3, 5, -2, 2)
            many, edges = system
            answers = [values for values in itertools.product(range(7), repeat=many) if keeps(edges, values)]
            other = (many, some_system(dice, 1, 0)[1] + tuple(edge for edge in dice.sample(SOME, 2) if max(edge[:2]) < many))
            if farthest(system) is None:
                self.assertIs(within(system, other), True)
                continue
            self.assertIs(within(system, other), all(keeps(other[1], values) for values in answers))
            for edge in SOME:
                if max(edge[:2]) < many:
                    self.assertIs(implied(system, edge), all(keeps([edge], values) for values in answers))

    def test_within(self):
        none = (2, ((0, 0, -1),))
        self.assertIs(within(none, (2, ())), True)
        self.assertIs(within(none, none), True)
        self.assertIs(within((2, ()), none), False)
        self.assertIs(within((2, ()), (2, ((0, 1, 9),))), False)
        self.assertIs(within((2, ((0, 1, 9),)), (2, ())), True)
        self.assertIs(within(system=(2, ((0, 1, 3),)), other=[2, [[0, 1, 3], [0, 0, 0]]]), True)

    def test_thinned_beside_the_plain_way(self):
        dice = chance(17)
        for turn in range(500):
            system = some_system(dice, 4, 9, -2, 4)
            many, edges = system
            if farthest(system) is None:
                continue
            stay = list(range(len(edges)))
            for at, (tail, head, weight) in enumerate(edges):
                others = [number for number in stay if number != at]
                far = farthest((many, [edges[number] for number in others]))[tail][head]
                if far is not None and far <= weight:
                    stay = others
            self.assertEqual(thinned(system), tuple(stay))
            self.assertEqual(table((many, [edges[at] for at in stay])), table(system))

    def test_thinned_of_equal_edges_and_of_none(self):
        self.assertEqual(thinned((2, ((0, 1, 3), (0, 1, 3), (0, 0, 5), (1, 1, 0)))), (1,))
        self.assertEqual(thinned((2, ())), ())
        self.assertEqual(thinned((3, ((0, 1, 1), (0, 2, 2), (1, 2, 1), (2, 0, -2), (1, 0, -1), (2, 1, -1)))), (1, 4, 5))


class Limits(unittest.TestCase):
    def test_great_systems_soon(self):
        system = wide_system()
        many, edges = system
        start = time.time()
        values = solved(system)[1]
        self.assertTrue(values_hold(system, values))
        self.assertEqual(max(values), 0)
        far = table(system)
        for one, other in ((0, 999), (17, 4), (500, 499)):
            self.assertEqual(span(system, one, other), (-far[other][one], far[one][other]))
            numbers = way(system, one, other)
            self.assertEqual(sum(edges[at][2] for at in numbers), far[one][other])
            self.assertTrue(values_hold(system, met(system, one, other, far[one][other])))
            self.assertIsNone(met(system, one, other, far[one][other] + 1))
        self.assertTrue(within(system, system))
        stay = thinned(system)
        self.assertTrue(within((many, [edges[at] for at in stay]), system))
        self.assertLess(time.time() - start, 60)

    def test_long_chains_and_long_rings(self):
        down = [(at + 1, at, -(10 ** 9)) for at in range(999)]
        self.assertEqual(solved((1000, down))[1][0], -999 * 10 ** 9)
        self.assertEqual(solved((1000, down[::-1]))[1][0], -999 * 10 ** 9)
        for back in (999 * 10 ** 9, 999 * 10 ** 9 - 1):
            for edges in (down + [(0, 999, back)], [(0, 999, back)] + down[::-1]):
                word, told = solved((1000, edges))
                self.assertEqual(word, "values" if back == 999 * 10 ** 9 else "ring")
                self.assertTrue(values_hold((1000, edges), told) or ring_holds((1000, edges), told))

    def test_arguments_are_left_alone_and_answers_are_alike(self):
        system = [3, [[0, 1, 2], [1, 2, -1], [2, 0, 0]]]
        was = repr(system)
        first = repr([call(system) for call in (solved, table, thinned, check_system)] + [met(system, 0, 1, 1), way(system, 0, 2)])
        again = repr([call(system) for call in (solved, table, thinned, check_system)] + [met(system, 0, 1, 1), way(system, 0, 2)])
        self.assertEqual(first, again)
        self.assertEqual(repr(system), was)
        self.assertEqual(differences.with_edges(system, [[0, 0, 1]])[1][3], (0, 0, 1))


if __name__ == "__main__":
    unittest.main()
