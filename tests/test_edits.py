"""Point [12]: bounds that are laid and lifted one by one, beside systems reckoned anew."""

import time
import unittest

from plain import NO_EDGES, ODD, all_tuples, caught, chance, farthest, keeps, wide_system
from wrecktold.differences import solved
from wrecktold.edits import Bounds
from wrecktold.errors import Refused


def state(bounds, many):
    """All that can be asked of bounds."""
    pairs = [(one, other) for one in range(many) for other in range(many)]
    return bounds.told_edges(), bounds.answer(), [bounds.span(*pair) for pair in pairs], [bounds.way(*pair) for pair in pairs]


class Led:
    """Bounds, and beside them the edges that lie, by their numbers."""

    def __init__(self, case, many):
        self.case = case
        self.bounds = Bounds(many)
        self.many = many
        self.lie = {}
        self.given = 0

    def far(self, more=()):
        return farthest((self.many, [*self.lie.values(), *more]))

    def ring(self, named, new):
        """Looks whether names are a ring of edges that lie and new ones."""
        edges = [new[name] if name in new else self.lie[name] for name in named]
        self.case.assertEqual(len(set(named)), len(named))
        self.case.assertTrue(named and sum(edge[2] for edge in edges) < 0)
        for one, other in zip(edges, edges[1:] + edges[:1]):
            self.case.assertEqual(one[1], other[0])
        self.case.assertTrue(all_tuples(named))

    def lay(self, edge):
        told = self.bounds.lay(edge)
        if self.far([edge]) is None:
            word, named = told
            self.case.assertEqual((word, named[0]), ("ring", "new"))
            self.ring(named, {"new": edge})
            self.case.assertNotIn("new", named[1:])
            return False
        self.case.assertEqual(told, ("laid", self.given))
        self.lie[self.given] = edge
        self.given += 1
        return True

    def lift(self, number):
        self.case.assertIsNone(self.bounds.lift(number))
        del self.lie[number]

    def grow(self):
        self.case.assertEqual(self.bounds.grow(), self.many)
        self.many += 1

    def ask(self, edges):
        """Asks of a ring with these edges besides."""
        told = self.bounds.ring_with(edges)
        free = self.far(edges) is not None
        self.case.assertIs(self.bounds.can(edges), free)
        if free:
            self.case.assertIsNone(told)
        else:
            self.ring(told, {("new", at): edge for at, edge in enumerate(edges)})

    def look(self):
        """Looks at all that is told of the edges that lie."""
        numbers = sorted(self.lie)
        self.case.assertEqual(self.bounds.told_edges(), tuple((number, *self.lie[number]) for number in numbers))
        values = self.bounds.answer()
        self.case.assertEqual(len(values), self.many)
        self.case.assertTrue(keeps(self.lie.values(), values))
        self.case.assertEqual(values, solved((self.many, list(self.lie.values())))[1])
        far = self.far()
        for one in range(self.many):
            for other in range(self.many):
                back = far[other][one]
                self.case.assertEqual(self.bounds.span(one, other), (None if back is None else -back, far[one][other]))
                numbers = self.bounds.way(one, other)
                self.case.assertEqual(numbers is None, far[one][other] is None)
                if numbers is not None:
                    at = one
                    for number in numbers:
                        self.case.assertEqual(self.lie[number][0], at)
                        at = self.lie[number][1]
                    self.case.assertEqual(at, other)
                    self.case.assertEqual(sum(self.lie[number][2] for number in numbers), far[one][other])


class Edits(unittest.TestCase):
    def test_the_example(self):
        some = Bounds(1)
        self.assertEqual(some.grow(), 1)
        self.assertEqual(some.lay((0, 1, 3)), ("laid", 0))
        self.assertEqual(some.lay((1, 0, -4)), ("ring", ("new", 0)))
        self.assertIs(some.can([(1, 0, -3)]), True)
        self.assertEqual(some.ring_with([(1, 0, -4)]), (("new", 0), 0))
        self.assertEqual(some.span(0, 1), (None, 3))

    def test_how_many_variables(self):
        for many in (1, 2, 1000):
            self.assertEqual(Bounds(many).answer(), (0,) * many)
        for bad in [*ODD, 0, -3, 1001]:
            self.assertIs(caught(Refused, Bounds, bad).at, bad)
        self.assertEqual(Bounds(many=3).told_edges(), ())

    def test_behind_the_thousandth(self):
        some = Bounds(998)
        self.assertEqual([some.grow(), some.grow()], [998, 999])
        for turn in range(2):
            self.assertEqual(caught(Refused, some.grow).at, 1000)
        self.assertEqual(len(some.answer()), 1000)
        self.assertEqual(some.lay((999, 0, 1)), ("laid", 0))
        self.assertIs(caught(Refused, some.span, 0, 1000).at, 1000)

    def test_whatever_was_laid_and_lifted(self):
        rings = 0
        for seed in range(40):
            dice = chance(seed)
            led = Led(self, dice.randint(1, 3))
            for turn in range(40):
                deed = dice.randrange(10)
                if deed == 0 and led.many < 6:
                    led.grow()
                elif deed < 3 and led.lie:
                    led.lift(dice.choice(sorted(led.lie)))
                elif deed < 5:
                    led.ask([self.some_edge(dice, led.many) for _ in range(dice.randrange(4))])
                else:
                    rings += not led.lay(self.some_edge(dice, led.many))
                led.look()
        self.assertGreater(rings, 100)

    def some_edge(self, dice, many):
        return dice.randrange(many), dice.randrange(many), dice.randint(-3, 5)

    def test_numbers_are_used_once(self):
        led = Led(self, 2)
        self.assertTrue(led.lay((0, 1, 3)))
        self.assertTrue(led.lay((0, 1, 3)))
        self.assertFalse(led.lay((1, 0, -4)))
        led.lift(1)
        self.assertTrue(led.lay((0, 1, 3)))
        self.assertEqual(led.bounds.told_edges(), ((0, 0, 1, 3), (2, 0, 1, 3)))
        for number in (0, 2):
            led.lift(number)
        self.assertTrue(led.lay((1, 0, -4)))
        self.assertEqual(led.bounds.told_edges(), ((3, 1, 0, -4),))

    def test_edges_from_a_variable_to_itself(self):
        some = Bounds(2)
        self.assertEqual(some.lay((1, 1, 0)), ("laid", 0))
        self.assertEqual(some.lay((1, 1, 5)), ("laid", 1))
        self.assertEqual(some.lay((1, 1, -1)), ("ring", ("new",)))
        self.assertEqual(some.ring_with([(0, 1, 2), (0, 0, -1)]), (("new", 1),))
        self.assertEqual(some.way(1, 1), ())
        self.assertEqual(some.span(1, 1), (0, 0))

    def test_what_is_refused(self):
        some = Bounds(3)
        some.lay((0, 1, 3)), some.lay((1, 2, 3))
        some.lift(0)
        before = state(some, 3)
        for bad in [*NO_EDGES, (0, 3, 1)]:
            self.assertIs(caught(Refused, some.lay, bad).at, bad)
            edges = [(0, 0, -1), bad]
            self.assertIs(caught(Refused, some.ring_with, edges).at, edges)
            self.assertIs(caught(Refused, some.can, edges).at, edges)
        for bad in [value for value in ODD if value not in ([], ())]:
            self.assertIs(caught(Refused, some.ring_with, bad).at, bad)
            self.assertIs(caught(Refused, some.can, bad).at, bad)
        for bad in [*ODD, 0, 2, -1]:
            self.assertIs(caught(Refused, some.lift, bad).at, bad)
        for bad in [*ODD, 3, -1]:
            for call in (some.span, some.way):
                self.assertIs(caught(Refused, call, bad, None).at, bad)
                self.assertIs(caught(Refused, call, 2, bad).at, bad)
        self.assertEqual(state(some, 3), before)

    def test_nothing_is_changed_by_a_ring(self):
        dice = chance(77)
        for turn in range(200):
            some = Bounds(4)
            for _ in range(8):
                some.lay(self.some_edge(dice, 4))
            before = state(some, 4)
            edge = (dice.randrange(4), dice.randrange(4), -6)
            if some.lay(edge)[0] == "ring":
                self.assertEqual(state(some, 4), before)
                self.assertIs(some.can([(0, 1, 9), edge]), False)
            else:
                some.lift(some.told_edges()[-1][0])
            self.assertEqual(state(some, 4)[:3], before[:3])
            some.ring_with([edge, edge]), some.can([self.some_edge(dice, 4)])
            self.assertEqual(state(some, 4)[:3], before[:3])

    def test_arguments_are_copied(self):
        some = Bounds(2)
        edge = [0, 1, 3]
        some.lay(edge=edge)
        edge[2] = 9
        self.assertEqual(some.told_edges(), ((0, 0, 1, 3),))
        edges = [[1, 0, -4]]
        some.ring_with(edges=edges), some.can(edges=edges)
        self.assertEqual((edges, some.span(one=0, other=1), some.way(tail=0, head=1)), ([[1, 0, -4]], (None, 3), (0,)))
        some.lift(number=0)
        self.assertEqual(some.told_edges(), ())

    def test_great_ones_soon(self):
        many, edges = wide_system()
        start = time.time()
        some = Bounds(many)
        for number, edge in enumerate(edges):
            self.assertEqual(some.lay(edge), ("laid", number))
        self.assertTrue(keeps(edges, some.answer()))
        least, greatest = some.span(3, 700)
        self.assertEqual(sum(edges[number][2] for number in some.way(3, 700)), greatest)
        self.assertIs(some.can([(700, 3, -greatest)]), True)
        self.assertEqual(some.ring_with([(700, 3, -greatest - 1)])[0], ("new", 0))
        self.assertEqual(some.lay((700, 3, -greatest - 1))[0], "ring")
        self.assertIs(some.can(edges[::-1]), True)
        for number in range(0, 2000, 2):
            some.lift(number)
        self.assertEqual([edge[0] for edge in some.told_edges()], list(range(1, 2000, 2)))
        self.assertLess(time.time() - start, 60)

    def test_chains_laid_from_either_end(self):
        for order in (1, -1):
            some = Bounds(1000)
            for at in list(range(999))[::order]:
                self.assertEqual(some.lay((at, at + 1, -(10 ** 9)))[0], "laid")
            self.assertEqual(some.span(0, 999), (None, -999 * 10 ** 9))
            self.assertEqual(len(some.lay((999, 0, 999 * 10 ** 9 - 1))[1]), 1000)


if __name__ == "__main__":
    unittest.main()
