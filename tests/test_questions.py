"""Points [52] to [56]: what follows what, how often, and what is first, beside all courses of few rows."""

import itertools
import unittest

from plain import ODD, all_tuples, caught, chance, flight, soon, some_setup, with_part
from plain_courses import dense_rows, loose_rows, own_holds, table_of
from test_courses import FALSE, NO_HAPPENINGS, ROWS, SETUP, happening
from wrecktold.errors import BadRows, BadSetup, NoChannel, NoHappening, Quarrel, Refused
from wrecktold.questions import count_in, counted, each_followed, first_of, followed, follows, marked

CALLS = [
    (marked, (None,)), (followed, (None, None, None)), (each_followed, (None, None, None)), (counted, (None, None, None)),
    (first_of, (None,)),
]
NO_MARKS = [*ODD, (0, 1), (0, 1, 2, 3), (0, 1, None), (0, True, 1), (False, 0, 1), ("0", 0, 1), (0, 0, (1,)), [0, [1], 2]]
NO_CHANNELS = [(2, 0, 9), (-1, 0, 9), (10 ** 40, 0, 9), [2, 0, 0]]
NO_NUMBERS = [bad for bad in ODD if bad.__class__ is not int] + [-1, -(10 ** 40), "5", (5,), True, False, 5.0]


def own_marked(rows, mark):
    return tuple(place for place, row in enumerate(rows) if any(row_channel == mark[0] and mark[1] <= value <= mark[2] for row_channel, value in row[6]))


def own_follows(course, place, others, within):
    return any(course[other][0] - course[place][0] in range(1, within + 1) for other in others)


def own_count(course, others, x, y):
    first, last = course[x // 2][x % 2], course[y // 2][y % 2]
    return sum(first <= course[other][0] <= last for other in others)


def wide_mark(dice, setup):
    """A mark by chance, often of many rows, sometimes of none."""
    low = dice.randint(-25, 8)
    return dice.randrange(len(setup[2])), low, low + dice.choice((-1, 0, 5, 30, 60))


def some_mark(dice, setup):
    """A mark by chance of readings from 0 to 2."""
    low = dice.randint(-1, 3)
    return dice.randrange(len(setup[2])), low, low + dice.choice((-1, 0, 1, 2, 9))


def can(setup, rows, edges):
    """Whether some course keeps these edges, too."""
    return table_of(setup, rows, edges) is not None


def choices(setup, rows, lots):
    """Whether some course keeps the edges of one choice of each lot."""
    return any(can(setup, rows, [edge for edges in lot for edge in edges]) for lot in itertools.product(*lots))


class Examples(unittest.TestCase):
    SETUP = (((1, 2, 0, 0, 2, 9),), (1, 2), ((0, None), (0, None)))
    ROWS = ((0, 0, 0, 0, 0, 0, ((0, 1),)), (0, 4, 0, 0, 1, 4, ((1, 1),)), (0, 8, 0, 0, 2, 8, ((0, 2), (1, 1))))

    def test_those_of_the_document(self):
        told = self.SETUP, self.ROWS
        self.assertEqual(marked(setup=told[0], rows=told[1], mark=[0, 1, 1]), (0,))
        self.assertEqual(followed(*told, 0, (1, 1, 1), 8), ("always",))
        self.assertEqual(followed(setup=told[0], rows=told[1], place=0, mark=(1, 1, 1), within=3), ("never",))
        self.assertEqual(followed(*told, 0, (1, 1, 1), 5)[0], "open")
        self.assertEqual([many for many, _ in counted(*told, ("sent", 0), ("heard", 1), (1, 0, 9))], [1])
        self.assertEqual([at for at, _ in first_of(setup=told[0], rows=told[1], marks=[(1, 0, 9), (0, 0, 9), (0, 5, 9)])], [1])
        self.assertEqual([at for at, _ in counted(setup=told[0], rows=told[1], one=("sent", 0), other=("heard", 2), mark=(1, 0, 9))], [2])
        self.assertEqual(each_followed(setup=told[0], rows=told[1], mark=(0, 1, 2), other=(1, 1, 1), within=9)[:2], ("not", 2))

    def test_in_one_course(self):
        course = ((0, 1), (4, 4), (9, 9))
        self.assertIs(follows(course=course, place=0, others=[1, 2], within=4), True)
        self.assertIs(follows(course, 0, (1, 2), 3), False)
        self.assertIs(follows(course, 1, (0, 1), 99), False)
        self.assertIs(follows(course, 0, (), 99), False)
        self.assertIs(follows(((0, 0), (1, 1)), 0, (1,), 1), True)
        self.assertIs(follows(((0, 0), (1, 1)), 0, (1,), 0), False)
        self.assertIs(follows(((0, 0), (0, 1)), 0, (1,), 5), False)
        self.assertEqual(count_in(course=course, others=(0, 1, 2), one=("sent", 0), other=("heard", 1)), 2)
        self.assertEqual(count_in(course, [0, 1, 2], ("heard", 0), ("sent", 2)), 2)
        self.assertEqual(count_in(course, (0, 1, 2), ["sent", 1], ["sent", 1]), 1)
        self.assertEqual(count_in(course, (0, 1, 2), ("sent", 2), ("sent", 0)), 0)
        self.assertEqual(count_in(course, (), ("sent", 0), ("sent", 2)), 0)


class ByAllCourses(unittest.TestCase):
    def test_marked(self):
        empty = 0
        for seed in range(150):
            dice = chance(seed)
            setup = some_setup(dice)
            rows, _ = flight(dice, setup)
            for turn in range(5):
                mark = wide_mark(dice, setup)
                told = marked([list(part) for part in setup], list(rows), list(mark))
                self.assertEqual(told, own_marked(rows, mark))
                self.assertTrue(all_tuples(told))
                empty += told == ()
        self.assertGreater(empty, 50)

    def test_what_follows(self):
        seen = {}
        for seed in range(250):
            dice = chance(seed)
            setup, rows, found = dense_rows(dice)
            for turn in range(6):
                place, mark, within = dice.randrange(len(rows)), some_mark(dice, setup), dice.randint(0, 9)
                others = own_marked(rows, mark)
                own = {own_follows(pairs, place, others, within) for pairs in found}
                told = followed(setup, rows, place, mark, within)
                self.assertTrue(all_tuples(told))
                seen[told[0], place in others] = True
                if len(own) == 1:
                    self.assertEqual(told, ("always" if True in own else "never",))
                else:
                    self.look_at_open(setup, rows, place, others, within, told)
        self.assertEqual(len(seen), 6)

    def look_at_open(self, setup, rows, place, others, within, told):
        self.assertEqual((told[0], len(told)), ("open", 3))
        for pairs, so in ((told[1], True), (told[2], False)):
            self.assertTrue(own_holds(setup, rows, pairs))
            self.assertIs(own_follows(pairs, place, others, within), so)
            self.assertIs(follows(pairs, place, others, within), so)

    def test_whether_each_is_followed(self):
        seen = {}
        for seed in range(250):
            dice = chance(seed)
            setup, rows, found = dense_rows(dice)
            for turn in range(6):
                mark, other, within = some_mark(dice, setup), some_mark(dice, setup), dice.randint(0, 9)
                places, others = own_marked(rows, mark), own_marked(rows, other)
                lacking = [place for place in places if not all(own_follows(pairs, place, others, within) for pairs in found)]
                told = each_followed(setup, rows, mark, other, within)
                self.assertTrue(all_tuples(told))
                if not lacking:
                    self.assertEqual(told, ("always",))
                    seen["always", bool(places)] = True
                else:
                    self.assertEqual((told[:2], len(told)), (("not", lacking[0]), 3))
                    self.assertTrue(own_holds(setup, rows, told[2]))
                    self.assertFalse(own_follows(told[2], lacking[0], others, within))
                    seen["not", lacking[0] == places[0], mark == other] = True
        self.assertGreater(len(seen), 3)

    def test_how_often(self):
        seen = {}
        for seed in range(250):
            dice = chance(seed)
            setup, rows, found = dense_rows(dice)
            for turn in range(6):
                x, y, mark = dice.randrange(2 * len(rows)), dice.randrange(2 * len(rows)), some_mark(dice, setup)
                others = own_marked(rows, mark)
                own = sorted({own_count(pairs, others, x, y) for pairs in found})
                told = counted(setup, rows, happening(x), happening(y), mark)
                self.assertTrue(all_tuples(told))
                self.assertEqual([many for many, _ in told], own)
                seen[len(own)] = seen[own[0], 0] = True
                for many, pairs in told:
                    self.assertTrue(own_holds(setup, rows, pairs))
                    self.assertEqual(own_count(pairs, others, x, y), many)
                    self.assertEqual(count_in(pairs, others, happening(x), happening(y)), many)
        self.assertGreater(len(seen), 4)

    def test_what_is_first(self):
        seen = {}
        for seed in range(250):
            dice = chance(seed)
            setup, rows, found = dense_rows(dice)
            for turn in range(4):
                marks = [some_mark(dice, setup) for _ in range(dice.randint(0, 4))]
                lots = [own_marked(rows, mark) for mark in marks]
                told = first_of(setup, rows, marks)
                self.assertTrue(all_tuples(told))
                self.assertEqual([at for at, _ in told], [at for at in range(len(marks)) if any(self.is_first(pairs, lots, at) for pairs in found)])
                for at, pairs in told:
                    self.assertTrue(own_holds(setup, rows, pairs))
                    self.assertTrue(self.is_first(pairs, lots, at))
                seen[len(told)] = True
        self.assertGreater(len(seen), 3)

    def is_first(self, course, lots, at):
        times = [course[place][0] for lot in lots for place in lot]
        return any(course[place][0] == min(times) for place in lots[at])


class WithoutBound(unittest.TestCase):
    """Rows of which some have no bound between them: by all choices of bounds more, row by row."""

    def rows(self, seed):
        dice = chance(seed)
        while True:
            setup, rows = loose_rows(dice)
            mark = (dice.randrange(len(setup[2])), dice.choice((-99, -99, 1)), 99)
            if len(own_marked(rows, mark)) in (dice.randint(0, 4), 2, 3):
                return dice, setup, rows, mark, own_marked(rows, mark)

    def test_what_follows(self):
        seen = {}
        for seed in range(120):
            dice, setup, rows, mark, others = self.rows(seed)
            place, within = dice.randrange(len(rows)), dice.choice((0, 1, 4, 12, 60))
            p = 2 * place
            so = any(can(setup, rows, [(2 * q, p, -1), (p, 2 * q, within)]) for q in others)
            bare = choices(setup, rows, [([(p, 2 * q, 0)], [(2 * q, p, -within - 1)]) for q in others])
            told = followed(setup, rows, place, mark, within)
            self.assertEqual(told[0], "open" if so and bare else "always" if so else "never")
            seen[told[0]] = True
            if told[0] == "open":
                ByAllCourses.look_at_open(self, setup, rows, place, others, within, told)
        self.assertEqual(len(seen), 3)

    def test_how_often(self):
        seen = {}
        for seed in range(160):
            dice, setup, rows, mark, others = self.rows(seed)
            for turn in range(3):
                x, y = dice.randrange(2 * len(rows)), dice.randrange(2 * len(rows))
                own = self.own_numbers(setup, rows, others, x, y)
                told = counted(setup, rows, happening(x), happening(y), mark)
                self.assertEqual([many for many, _ in told], sorted(own))
                seen[len(own), 0 in own] = True
                for many, pairs in told:
                    self.assertTrue(own_holds(setup, rows, pairs))
                    self.assertEqual(own_count(pairs, others, x, y), many)
        self.assertGreater(len(seen), 3)

    def own_numbers(self, setup, rows, others, x, y):
        """How many of some rows can be sent from time x to time y."""
        own = {0} if can(setup, rows, [(x, y, -1)]) else set()
        for sides in itertools.product((0, 1, 2), repeat=len(others)):
            if sides.count(1) not in own:
                edges = [(y, x, 0)]
                for q, side in zip(others, sides):
                    edges += ([(x, 2 * q, -1)], [(2 * q, x, 0), (y, 2 * q, 0)], [(2 * q, y, -1)])[side]
                if can(setup, rows, edges):
                    own.add(sides.count(1))
        return own

    def test_what_stays_with_rows_more(self):
        stays = 0
        for seed in range(150):
            dice, setup, rows, mark, _ = self.rows(seed)
            within = dice.choice((1, 4, 12, 60))
            for many in range(1, len(rows)):
                place = dice.randrange(many)
                was = followed(setup, rows[:many], place, mark, within)[0]
                now = followed(setup, rows[:many + 1], place, mark, within)[0]
                same = own_marked(rows[:many], mark) == own_marked(rows[:many + 1], mark)
                if was == "always" or (was == "never" and same):
                    self.assertEqual(now, was)
                    stays += was == "always"
                x, y = dice.randrange(2 * many), dice.randrange(2 * many)
                numbers = [[number for number, _ in counted(setup, lot, happening(x), happening(y), mark)] for lot in (rows[:many], rows[:many + 1])]
                self.assertTrue(not same or set(numbers[1]) <= set(numbers[0]))
        self.assertGreater(stays, 5)


class Errors(unittest.TestCase):
    def test_those_of_rows_come_first(self):
        for call, more in CALLS:
            self.assertEqual(caught(BadSetup, call, with_part(SETUP, 0, None), None, *more).at, 0)
            self.assertEqual(caught(BadRows, call, SETUP, "", *more).at, -1)
            self.assertEqual(caught(Quarrel, call, SETUP, FALSE, *more).paper, ("numbers", 2, 3))

    def look_at_marks(self, call):
        """All marks that are none, passed to a function of one mark."""
        for bad in NO_MARKS:
            self.assertIs(caught(Refused, call, bad).at, bad)
        for bad in NO_CHANNELS:
            self.assertEqual(caught(NoChannel, call, bad).value, bad[0])

    def test_marks(self):
        good = (0, 0, 99)
        self.look_at_marks(lambda mark: marked(SETUP, ROWS, mark))
        self.look_at_marks(lambda mark: followed(SETUP, ROWS, 0, mark, None))
        self.look_at_marks(lambda mark: each_followed(SETUP, ROWS, mark, None, None))
        self.look_at_marks(lambda mark: each_followed(SETUP, ROWS, good, mark, None))
        self.look_at_marks(lambda mark: counted(SETUP, ROWS, ("sent", 0), ("sent", 1), mark))
        self.look_at_marks(lambda mark: first_of(SETUP, ROWS, [mark, None]))
        self.look_at_marks(lambda mark: first_of(SETUP, ROWS, (good, good, mark)))
        self.assertEqual(marked(SETUP, ROWS, (0, 10 ** 40, -(10 ** 40))), ())
        self.assertEqual(marked(SETUP, ROWS, (0, -(10 ** 40), 10 ** 40)), (0, 2))

    def test_places_and_ticks(self):
        for bad in [*ODD, 3, -1, "0", (0,), 0.0]:
            self.assertIs(caught(Refused, followed, SETUP, ROWS, bad, None, None).at, bad)
        for bad in NO_NUMBERS:
            self.assertIs(caught(Refused, followed, SETUP, ROWS, 0, (0, 0, 9), bad).at, bad)
            self.assertIs(caught(Refused, each_followed, SETUP, ROWS, (0, 0, 9), (1, 0, 9), bad).at, bad)
        self.assertEqual(followed(SETUP, ROWS, 0, (0, 0, 99), 10 ** 40), ("always",))
        self.assertEqual(followed(SETUP, ROWS, 0, (0, 0, 99), 0), ("never",))

    def test_happenings(self):
        for bad in NO_HAPPENINGS:
            self.assertIs(caught(NoHappening, counted, SETUP, ROWS, bad, None, None).value, bad)
            self.assertIs(caught(NoHappening, counted, SETUP, ROWS, ("heard", 0), bad, None).value, bad)

    def test_no_sequence_of_marks(self):
        for bad in ODD:
            if not isinstance(bad, (list, tuple)):
                self.assertIs(caught(Refused, first_of, SETUP, ROWS, bad).at, bad)
        self.assertEqual(first_of(SETUP, ROWS, []), ())
        self.assertEqual(first_of(SETUP, (), [(0, 0, 9)]), ())
        self.assertEqual(marked(SETUP, (), (0, 0, 9)), ())
        self.assertEqual(each_followed(SETUP, (), (0, 0, 9), (0, 0, 9), 1), ("always",))


class Edges(unittest.TestCase):
    def test_marks_without_rows(self):
        none = (0, 5, 4)
        self.assertEqual(followed(SETUP, ROWS, 0, none, 99), ("never",))
        self.assertEqual(each_followed(SETUP, ROWS, none, (1, 0, 9), 0), ("always",))
        self.assertEqual(each_followed(SETUP, ROWS, (0, 0, 99), none, 99)[:2], ("not", 0))
        self.assertEqual([many for many, _ in counted(SETUP, ROWS, ("sent", 0), ("heard", 2), none)], [0])
        self.assertEqual(first_of(SETUP, ROWS, [none, none]), ())
        self.assertEqual([at for at, _ in first_of(SETUP, ROWS, [none, (1, 0, 9), (0, 20, 30)])], [1])

    def test_a_row_that_has_both_marks(self):
        setup = (((1, 1, 0, 0, 2, 9),), (1, 1), ((0, None), (0, None)))
        rows = ((0, 0, 0, 0, 0, 0, ((0, 1), (1, 1))), (0, 4, 0, 0, 1, 4, ((0, 1), (1, 1))))
        self.assertEqual(followed(setup, rows, 0, (1, 1, 1), 4), ("always",))
        self.assertEqual(followed(setup, rows, 0, (1, 1, 1), 3), ("never",))
        self.assertEqual(followed(setup, rows, 1, (1, 1, 1), 99), ("never",))
        self.assertEqual(each_followed(setup, rows, (0, 1, 1), (1, 1, 1), 9)[:2], ("not", 1))
        self.assertEqual([at for at, _ in first_of(setup, rows, [(0, 1, 1), (1, 1, 1), (0, 1, 1)])], [0, 1, 2])
        self.assertEqual([many for many, _ in counted(setup, rows, ("sent", 0), ("sent", 1), (1, 1, 1))], [2])
        self.assertEqual([many for many, _ in counted(setup, rows, ("sent", 1), ("sent", 0), (1, 1, 1))], [0])

    def test_thirty_rows_soon(self):
        sources = tuple((1, 100, 0, 0, 1, 1000) for _ in range(4))
        setup = (sources, (1, 100), tuple((at % 4, None) for at in range(8)))
        rows = tuple((0, 7 * at, at % 4, 0, at // 4, 9 * (at // 4), ((at % 4, at), (at % 4 + 4, at))) for at in range(30))
        setup_one = (sources, (1, 100), ((0, None),) * 8)
        rows_one = tuple((0, 7 * at, at % 3 and 1, 0, at, 9 * at, ((0, at),) if at % 3 == 0 else ()) for at in range(30))
        for told, marks in [((setup, rows), [(at, 0, 99) for at in range(4)]), ((setup_one, rows_one), [(0, 0, 99)] * 4)]:
            self.assertIsInstance(soon(self, 5, followed, *told, 9, marks[0], 700), tuple)
            self.assertIsInstance(soon(self, 5, each_followed, *told, marks[1], marks[2], 10 ** 6), tuple)
            for many, pairs in soon(self, 5, counted, *told, ("sent", 1), ("heard", 28), marks[0]):
                self.assertEqual(own_count(pairs, own_marked(told[1], marks[0]), 2, 57), many)
            self.assertIsInstance(soon(self, 5, first_of, *told, marks), tuple)


if __name__ == "__main__":
    unittest.main()
