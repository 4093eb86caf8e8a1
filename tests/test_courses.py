"""Points [45], [46], [47]: quarrels, courses and stretches, beside all bounds between any two rows."""

import unittest

from plain import ODD, all_tuples, caught, chance, flight, soon, some_setup, with_part
from plain_courses import (
    all_courses, bent_rows, edges_with_words, few_rows, meets, own_edges, own_holds, own_numbers, stretch_of, table_of,
)
from wrecktold.courses import course, course_at, course_of, course_with, need_true, quarrel, stretch
from wrecktold.errors import BadRows, BadSetup, NoHappening, Quarrel, Refused

SETUP = (((2, 3, 0, 1, 1, 9), (1, 2, 0, 0, 2, 9)), (1, 1), ((0, 5), (1, None)))
ROWS = ((0, 4, 0, 0, 7, 1, ((0, 10),)), (0, 6, 1, 0, 0, 3, ((1, 1),)), (0, 8, 0, 0, 8, 3, ((0, 25),)))
FALSE = ROWS + ((0, 9, 0, 0, 20, 4, ()),)
RING = ROWS + ((0, 9, 0, 0, 9, 5, ()),)
NO_HAPPENINGS = [*ODD, ("sent",), ("sent", 3), ("heard", -1), ("sent", True), ("Sent", 0), (0, "sent"), ("sent", 0, 0)]

CALLS = [
    (quarrel, ()), (need_true, ()), (course, ()), (course_with, (None,)), (stretch, (None, None)), (course_at, (None, None, None)),
]


def happening(number):
    return ("heard" if number % 2 else "sent", number // 2)


def ring_stands(setup, rows, words):
    """Whether some edges of these bounds of neighbours stand one behind another round a ring whose sum is below 0."""
    told = edges_with_words(setup, rows, any_two=False)
    lots = [[edge[1:] for edge in told if edge[0] == word] for word in words]

    def goes(start, at, place, total, used):
        if place == len(lots):
            return at == start and total < 0
        return any(
            goes(start if place else tail, head, place + 1, total + weight, used + [(words[place], tail, head)])
            for tail, head, weight in lots[place] if (place == 0 or tail == at) and (words[place], tail, head) not in used
        )

    return bool(words) and goes(None, None, 0, 0, [])


class Quarrels(unittest.TestCase):
    def test_the_examples(self):
        self.assertEqual(quarrel(SETUP, FALSE), ("numbers", 2, 3))
        word, words = quarrel(SETUP, RING)
        self.assertEqual(word, "ring")
        self.assertTrue(ring_stands(SETUP, RING, words))
        self.assertIsNone(quarrel(setup=SETUP, rows=list(ROWS)))

    def test_what_truly_was_never_quarrels(self):
        for seed in range(120):
            dice = chance(seed)
            setup = some_setup(dice)
            rows, _ = flight(dice, setup)
            self.assertIsNone(quarrel(setup, rows))
            told = need_true(setup=[list(part) for part in setup], rows=[list(row) for row in rows])
            self.assertEqual(told, (setup, rows))
            self.assertTrue(all_tuples(told))

    def test_what_is_turned(self):
        seen = {}
        for seed in range(700):
            dice = chance(seed)
            setup = some_setup(dice)
            rows, _ = flight(dice, setup)
            bent = bent_rows(dice, setup, rows) if rows else None
            if bent is None:
                continue
            paper = quarrel(setup, bent)
            self.assertEqual(quarrel(setup, list(bent)), paper)
            own = own_numbers(setup, bent)
            seen[paper[0] if paper else None] = True
            if own is not None:
                self.assertEqual(paper, own)
            elif table_of(setup, bent) is not None:
                self.assertIsNone(paper)
            else:
                self.assertEqual((paper[0], len(paper)), ("ring", 2))
                self.assertTrue(all_tuples(paper))
                self.assertTrue(ring_stands(setup, bent, paper[1]), (setup, bent, paper))
            if paper is None:
                self.assertEqual(need_true(setup, bent), (setup, bent))
            else:
                for call, more in CALLS[1:]:
                    self.assertEqual(caught(Quarrel, call, setup, bent, *more).paper, paper)
        self.assertEqual(sorted(map(str, seen)), ["None", "numbers", "ring"])

    def test_the_first_numbers_ahead_of_rings(self):
        setup = (((1, 1, 0, 0, 2, 3), (1, 1, 0, 0, 2, 3)), (1, 1), ((0, None),))
        rows = [
            (0, 0, 1, 0, 0, 0, ()), (0, 2, 1, 0, 2, 2, ()), (0, 3, 0, 0, 0, 0, ()), (0, 5, 0, 0, 1, 2, ()),
            (0, 7, 0, 0, 3, 4, ()), (0, 9, 0, 0, 5, 6, ()), (0, 99, 1, 0, 3, 4, ()),
        ]
        self.assertEqual(quarrel(setup, rows), ("numbers", 3, 4))
        rows[4] = (0, 7, 0, 0, 2, 4, ())
        self.assertEqual(quarrel(setup, rows), ("numbers", 4, 5))
        rows[5] = (0, 9, 0, 1, 5, 6, ())
        self.assertEqual(quarrel(setup, rows), ("numbers", 0, 1))
        rows[1] = (0, 2, 1, 0, 1, 2, ())
        self.assertEqual(quarrel(setup, rows), ("numbers", 1, 6))
        rows[6] = (0, 99, 1, 0, 2, 4, ())
        self.assertEqual(quarrel(setup, rows)[0], "ring")
        self.assertIsNone(quarrel(setup, rows[:6]))

    def test_of_few_rows_just_where_there_is_no_course(self):
        told = {}
        for seed in range(400):
            dice = chance(seed)
            setup, rows, _ = few_rows(dice, most=200)
            bent = bent_rows(dice, setup, rows)
            if bent is not None and own_numbers(setup, bent) is None:
                found = all_courses(setup, bent)
                if found or table_of(setup, bent) is None:
                    self.assertIs(quarrel(setup, bent) is None, bool(found))
                    told[bool(found)] = True
        self.assertEqual(len(told), 2)

    def test_no_rows(self):
        self.assertIsNone(quarrel(SETUP, ()))
        self.assertEqual(need_true(SETUP, []), (SETUP, ()))
        self.assertEqual(course(SETUP, []), ())
        self.assertEqual(course_with(SETUP, (), ()), ())
        self.assertEqual(caught(Refused, course_with, SETUP, (), [(0, 0, 0)]).at, [(0, 0, 0)])
        self.assertEqual(caught(NoHappening, stretch, SETUP, (), ("sent", 0), ("sent", 0)).value, ("sent", 0))

    def test_which_error_comes_first(self):
        for call, more in CALLS:
            self.assertEqual(caught(BadSetup, call, with_part(SETUP, 2, ()), None, *more).at, 2)
            self.assertEqual(caught(BadRows, call, SETUP, 7, *more).at, -1)
            self.assertEqual(caught(BadRows, call, SETUP, FALSE[:2] + FALSE[:1] + FALSE, *more).at, 2)
        for call, more in CALLS[1:]:
            self.assertEqual(caught(Quarrel, call, SETUP, FALSE, *more).paper, ("numbers", 2, 3))
        for call in (stretch, lambda setup, rows, one, other: course_at(setup, rows, one, other, None)):
            for bad in NO_HAPPENINGS:
                self.assertIs(caught(NoHappening, call, SETUP, ROWS, bad, None).value, bad)
                self.assertIs(caught(NoHappening, call, SETUP, ROWS, ("heard", 2), bad).value, bad)


class Courses(unittest.TestCase):
    def test_a_course_of_times(self):
        self.assertEqual(course_of((1, 2, 3, 5)), ((1, 2), (3, 5)))
        self.assertEqual(course_of(values=[-1, 0]), ((-1, 0),))
        self.assertEqual(course_of([]), ())
        self.assertTrue(all_tuples(course_of([1, 2])))

    def test_it_holds(self):
        for seed in range(150):
            dice = chance(seed)
            setup = some_setup(dice)
            rows, _ = flight(dice, setup)
            told = course(setup=list(setup), rows=list(rows))
            self.assertTrue(all_tuples(told))
            self.assertEqual(len(told), len(rows))
            self.assertTrue(own_holds(setup, rows, told))
            self.assertEqual(course(setup, rows), told)

    def test_edges_more_are_kept_or_there_is_none(self):
        answers = {}
        for seed in range(300):
            dice = chance(seed)
            setup = some_setup(dice)
            rows, _ = flight(dice, setup, 3)
            many = 2 * len(rows)
            if not rows:
                continue
            more = [[dice.randrange(many), dice.randrange(many), dice.randint(-12, 25)] for _ in range(dice.randint(0, 4))]
            told = course_with(setup=setup, rows=rows, edges=more)
            can = table_of(setup, rows, more) is not None
            answers[can] = True
            self.assertIs(told is not None, can)
            if can:
                self.assertTrue(own_holds(setup, rows, told) and all_tuples(told))
                times = [time for pair in told for time in pair]
                self.assertTrue(all(times[y] <= times[x] + w for x, y, w in more))
        self.assertEqual(len(answers), 2)

    def test_what_is_no_edges(self):
        good = [(0, 5, 9)]
        bad_ones = [bad for bad in ODD if bad not in ([], ())]
        bad_ones += [[edge] for edge in [(0, 6, 1), (6, 0, 1), (0, -1, 1), (0, 1), (0, 1, 2, 3), (True, 1, 0), (0, 1, True), (0, 1, None)]]
        for bad in bad_ones + [good + [part] for part in ODD]:
            self.assertIs(caught(Refused, course_with, SETUP, ROWS, bad).at, bad)
        self.assertTrue(own_holds(SETUP, ROWS, course_with(SETUP, ROWS, good)))
        self.assertTrue(own_holds(SETUP, ROWS, course_with(SETUP, ROWS, [])))
        self.assertIsNone(course_with(SETUP, ROWS, [(0, 4, 3)]))
        self.assertIsNone(course_with(SETUP, ROWS, [(3, 3, -1)]))
        self.assertTrue(own_holds(SETUP, ROWS, course_with(SETUP, ROWS, [(3, 3, 0), (0, 4, 4), (0, 4, 10 ** 40)])))


class Stretches(unittest.TestCase):
    def test_the_examples(self):
        self.assertEqual(stretch(SETUP, ROWS, ("sent", 0), ("sent", 2)), (4, 5))
        self.assertEqual(stretch(setup=SETUP, rows=ROWS, one=["sent", 1], other=["heard", 2]), (2, 2))
        told = course_at(setup=SETUP, rows=ROWS, one=("sent", 0), other=("sent", 2), time=5)
        self.assertEqual(told[2][0] - told[0][0], 5)

    def test_each_time_of_it_and_no_other(self):
        for seed in range(60):
            dice = chance(seed)
            setup, rows, found = few_rows(dice)
            for x in range(2 * len(rows)):
                for y in range(2 * len(rows)):
                    own = sorted({pairs[y // 2][y % 2] - pairs[x // 2][x % 2] for pairs in found})
                    told = stretch(setup, rows, happening(x), happening(y))
                    self.assertEqual(told, (own[0], own[-1]))
                    self.assertEqual(own, list(range(own[0], own[-1] + 1)))
                    for time in range(own[0] - 2, own[-1] + 3):
                        if time not in own:
                            self.assertEqual(caught(Refused, course_at, setup, rows, happening(x), happening(y), time).at, time)
                        elif dice.random() < 0.5:
                            self.look(setup, rows, x, y, time)

    def look(self, setup, rows, x, y, time):
        """Looks at a course in which one time is so much behind the other."""
        told = course_at(setup, rows, happening(x), happening(y), time)
        self.assertTrue(own_holds(setup, rows, told) and all_tuples(told))
        self.assertEqual(told[y // 2][y % 2] - told[x // 2][x % 2], time)

    def test_beside_all_bounds(self):
        ends = {}
        for seed in range(150):
            dice = chance(seed)
            setup = some_setup(dice)
            rows, _ = flight(dice, setup, 3)
            table = table_of(setup, rows)
            for turn in range(12 if rows else 0):
                x, y = dice.randrange(len(table)), dice.randrange(len(table))
                own = stretch_of(table, x, y)
                self.assertEqual(stretch(setup, rows, happening(x), happening(y)), own)
                ends[own[0] is None, own[1] is None] = True
                time = dice.randint(-30, 30)
                if meets(own, time):
                    self.look(setup, rows, x, y, time)
                else:
                    self.assertEqual(caught(Refused, course_at, setup, rows, happening(x), happening(y), time).at, time)
                for far in (own[0], own[1], 10 ** 8, -(10 ** 8)):
                    if far is not None and meets(own, far):
                        self.look(setup, rows, x, y, far)
        self.assertEqual(len(ends), 3)

    def test_any_value_that_is_no_time_of_it(self):
        for bad in [*ODD, "4", (4,), 4.0, True, 3, 6]:
            self.assertIs(caught(Refused, course_at, SETUP, ROWS, ("sent", 0), ("sent", 2), bad).at, bad)
        self.assertIs(caught(Refused, course_at, SETUP, ROWS, ("sent", 0), ("sent", 0), False).at, False)

    def test_with_a_row_more_no_stretch_is_wider(self):
        narrower = 0
        for seed in range(60):
            dice = chance(seed)
            setup = some_setup(dice)
            rows, _ = flight(dice, setup, 3)
            for many in range(1, len(rows)):
                for turn in range(6):
                    one, other = happening(dice.randrange(2 * many)), happening(dice.randrange(2 * many))
                    was = stretch(setup, rows[:many], one, other)
                    told = stretch(setup, rows[:many + 1], one, other)
                    self.assertTrue(was[0] is None or (told[0] is not None and told[0] >= was[0]))
                    self.assertTrue(was[1] is None or (told[1] is not None and told[1] <= was[1]))
                    narrower += told != was
        self.assertGreater(narrower, 10)


class Limits(unittest.TestCase):
    def test_forty_rows_and_a_hundred_edges_soon(self):
        sources = tuple((1, 100, 0, 0, 1, 1000) for _ in range(8))
        setup = (sources, (1, 100), tuple((at % 8, 1000) for at in range(16)))
        rows = tuple((0, 5 * at, at % 8, 0, at // 8, 10 ** 4 * (at // 8 + 1) // 50, ((at % 8, at),)) for at in range(40))
        self.assertIsNone(soon(self, 5, quarrel, setup, rows))
        table = table_of(setup, rows)
        dice = chance(5)
        more = []
        for turn in range(100):
            x, y = dice.randrange(80), dice.randrange(80)
            more.append((x, y, table[x][y] + dice.randint(-1, 9)))
        told = soon(self, 5, course_with, setup, rows, more)
        self.assertIs(told is not None, table_of(setup, rows, more) is not None)
        wide = [(x, y, 10 ** 8) for x, y, _ in more]
        self.assertTrue(own_holds(setup, rows, soon(self, 5, course_with, setup, rows, wide)))
        self.assertEqual(soon(self, 5, stretch, setup, rows, ("sent", 0), ("heard", 39)), stretch_of(table, 0, 79))

    def test_far_times(self):
        setup = (((100, 100, 0, 0, 1, 1000),), (100, 100), ((0, None),))
        rows = tuple((0, 10 ** 6 * at, 0, 0, 0, 10 ** 6 * at, ()) for at in range(2))
        self.assertEqual(stretch(setup, rows, ("sent", 0), ("heard", 1)), (10 ** 8, 10 ** 8))
        rows = tuple((at, 0, 0, at, 0, 0, ()) for at in range(2))
        self.assertEqual(stretch(setup, rows, ("sent", 0), ("heard", 1)), (100, None))
        self.assertEqual(stretch(setup, rows, ("sent", 1), ("heard", 0)), (None, -100))
        told = course_at(setup, rows, ("sent", 0), ("heard", 1), 10 ** 9)
        self.assertTrue(own_holds(setup, rows, told))
        self.assertEqual(told[1][1] - told[0][0], 10 ** 9)

    def test_no_answer_hangs_on_calls_in_between(self):
        rows = [list(row) for row in ROWS]
        first = course(SETUP, rows), course_at(SETUP, rows, ("sent", 0), ("sent", 2), 4), quarrel(SETUP, RING)
        course_with(SETUP, rows, [(0, 4, 5)])
        stretch(SETUP, rows, ("sent", 0), ("sent", 1))
        self.assertEqual((course(SETUP, ROWS), course_at(SETUP, ROWS, ("sent", 0), ("sent", 2), 4), quarrel(SETUP, RING)), first)
        told = need_true(SETUP, rows)
        rows[0][1] = 99
        self.assertEqual(told, (SETUP, ROWS))
        self.assertEqual(len(own_edges(SETUP, ROWS)), 6 + 2 + 6 + 1)


if __name__ == "__main__":
    unittest.main()
