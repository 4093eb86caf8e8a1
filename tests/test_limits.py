"""Points [22], [23]: what a channel was between readings, beside all courses and all paths."""

import unittest

from plain import ODD, all_tuples, caught, chance, flight, soon, some_setup, with_part
from plain_courses import few_rows, own_holds, stretch_of, table_of
from wrecktold.courses import course, course_at
from wrecktold.errors import BadRows, BadSetup, NoChannel, Quarrel, Refused
from wrecktold.limits import above, gaps, limit_word, limit_words, reach, story_holds, story_with, surely_above

SETUP = (((1, 2, 0, 0, 3, 9),), (1, 1), ((0, 2), (0, None)))
ROWS = ((0, 0, 0, 0, 0, 10, ((0, 5),)), (0, 4, 0, 0, 1, 13, ((0, 6), (1, 3))), (0, 9, 0, 0, 2, 17, ((0, 9), (1, 4))))

CALLS = [
    (gaps, ()), (reach, ()), (limit_words, (None,)), (limit_word, (None,)), (story_holds, (None, None)), (story_with, (None, None)),
    (above, (None,)), (surely_above, (None,)),
]
WITH_LIMIT = [limit_words, limit_word, above, surely_above]


def all_paths(first, last, rate, ticks):
    """All paths of a tent."""
    if ticks == 0:
        return [(first,)] if first == last else []
    told = []
    for value in range(first - rate, first + rate + 1):
        if abs(last - value) <= rate * (ticks - 1):
            told += [(first, *path) for path in all_paths(value, last, rate, ticks - 1)]
    return told


def is_path(value, first, last, rate):
    """Whether a path leads from the one value to the other."""
    return value[0] == first and value[-1] == last and all(abs(one - other) <= rate for one, other in zip(value, value[1:]))


def own_neighbours(rows, channel):
    """(place, place, value, value) of those rows side by side that have readings of a channel."""
    told = [(place, dict(row[6])[channel]) for place, row in enumerate(rows) if channel in dict(row[6])]
    return [(i, j, was, now) for (i, was), (j, now) in zip(told, told[1:])]


class Story:
    """All courses of few rows, and all paths between neighbours."""

    def __init__(self, seed):
        dice = chance(seed)
        while True:
            self.setup, self.rows, self.courses = few_rows(dice, many=4, most=300)
            rated = [channel for channel, (_, rate) in enumerate(self.setup[2]) if rate is not None]
            if rated and self.look(dice.choice(rated)):
                return

    def look(self, channel):
        """By neighbours all paths that a course has time for; whether these are not too many."""
        self.channel = channel
        self.rate = self.setup[2][channel][1]
        self.pairs = own_neighbours(self.rows, channel)
        self.ticks = [sorted({told[j][0] - told[i][0] for told in self.courses}) for i, j, _, _ in self.pairs]
        if any(ticks[-1] > (7, 7, 5, 4)[self.rate] for ticks in self.ticks):
            return False
        self.paths = [
            [path for many in ticks for path in all_paths(was, now, self.rate, many)]
            for (_, _, was, now), ticks in zip(self.pairs, self.ticks)
        ]
        return True


class Examples(unittest.TestCase):
    def test_those_of_the_document(self):
        setup, rows = [SETUP[0], SETUP[1], ((0, 2),)], [(*row[:6], row[6][:1]) for row in ROWS]
        self.assertEqual(gaps(setup=setup, rows=rows, channel=0), ((0, 1, 5, 6, 4, 4), (1, 2, 6, 9, 5, 5)))
        self.assertEqual(reach(setup=setup, rows=rows, channel=0), ((0, 1, 2, 9), (1, 2, 3, 12)))
        self.assertEqual(limit_words(setup=setup, rows=rows, channel=0, limit=9), ((0, 1, "kept"), (1, 2, "open")))
        self.assertEqual(above(setup=setup, rows=rows, channel=0, limit=5), ((0, 1, 1, 4), (1, 2, 3, 6)))
        self.assertEqual(surely_above(setup=setup, rows=rows, channel=0, limit=2), ((1, 2, 5),))
        self.assertEqual(limit_word(setup=setup, rows=rows, channel=0, limit=9), "open")
        self.assertEqual(limit_word(setup, rows, 0, 12), "kept")
        self.assertEqual(limit_word(setup, rows, 0, 8), "passed")


class ByAllPaths(unittest.TestCase):
    def test_gaps_and_reach(self):
        for seed in range(150):
            told = Story(seed)
            own = [(*pair, ticks[0], ticks[-1]) for pair, ticks in zip(told.pairs, told.ticks)]
            self.assertEqual(gaps(told.setup, told.rows, told.channel), tuple(own))
            reached = [(min(map(min, paths)), max(map(max, paths))) for paths in told.paths]
            own = [(*pair[:2], *ends) for pair, ends in zip(told.pairs, reached)]
            self.assertEqual(reach([list(part) for part in told.setup], list(told.rows), told.channel), tuple(own))
            self.assertTrue(all_tuples(gaps(told.setup, told.rows, told.channel)))
            self.assertTrue(all_tuples(reach(told.setup, told.rows, told.channel)))

    def test_limits(self):
        words = {}
        for seed in range(150):
            told = Story(seed)
            top = max([max(map(max, paths)) for paths in told.paths], default=5)
            for limit in range(top - 9, top + 2):
                own = []
                for (i, j, was, now), paths in zip(told.pairs, told.paths):
                    word = "passed" if max(was, now) > limit else "open" if max(map(max, paths)) > limit else "kept"
                    own.append((i, j, word))
                    words[word] = True
                self.assertEqual(limit_words(told.setup, told.rows, told.channel, limit), tuple(own))
                values = [value for row in told.rows for channel, value in row[6] if channel == told.channel]
                kept = all(word == "kept" for _, _, word in own)
                word = "passed" if any(value > limit for value in values) else "kept" if kept else "open"
                self.assertEqual(limit_word(told.setup, told.rows, told.channel, limit), word)
        self.assertEqual(len(words), 3)

    def test_at_how_many_ticks_it_is_above(self):
        for seed in range(150):
            told = Story(seed)
            for limit in range(-12, 13):
                many = [[sum(value > limit for value in path) for path in paths] for paths in told.paths]
                own = tuple((*pair[:2], min(each), max(each)) for pair, each in zip(told.pairs, many))
                self.assertEqual(above(told.setup, told.rows, told.channel, limit), own)
                self.assertTrue(all_tuples(above(told.setup, told.rows, told.channel, limit)))

    def test_what_surely_was_above(self):
        longer = 0
        for seed in range(250):
            told = Story(seed)
            values = [value for pair in told.pairs for value in pair[2:]]
            for limit in range(min(values, default=0) - 7, max(values, default=0) + 1):
                runs = []
                for (i, j, _, _), paths in zip(told.pairs, told.paths):
                    if min(map(min, paths)) > limit:
                        if runs and runs[-1][1] == i:
                            runs[-1] = (runs[-1][0], j)
                            longer += 1
                        else:
                            runs.append((i, j))
                own = tuple((i, j, min(pairs[j][0] - pairs[i][0] for pairs in told.courses)) for i, j in runs)
                self.assertEqual(surely_above(told.setup, told.rows, told.channel, limit), own)
        self.assertGreater(longer, 20)

    def test_the_time_of_a_row_of_neighbours_is_not_the_sum_of_its_parts(self):
        loose = (((1, 3, 0, 2, 3, 9),), (1, 1), ((0, 1),))
        rows = ((0, 0, 0, 0, 0, 0, ((0, 90),)), (0, 6, 0, 0, 1, 3, ((0, 90),)), (0, 12, 0, 0, 2, 6, ((0, 90),)))
        told = gaps(loose, rows, 0)
        self.assertEqual([gap[4:] for gap in told], [(4, 8), (4, 8)])
        self.assertEqual(surely_above(loose, rows, 0, 80), ((0, 2, 10),))

    def test_stories_with_a_value(self):
        answers = {}
        for seed in range(120):
            told = Story(seed)
            for at, (i, j, was, now) in enumerate(told.pairs):
                values = {value for path in told.paths[at] for value in path}
                for value in range(min(values) - 2, max(values) + 3):
                    story = story_with(told.setup, told.rows, told.channel, at, value)
                    answers[story is not None] = True
                    self.assertIs(story is not None, value in values)
                    if story is not None:
                        self.look(told, at, story, value)
        self.assertEqual(len(answers), 2)

    def look(self, told, at, story, value):
        """Looks at a story with a value."""
        i, j, was, now = told.pairs[at]
        self.assertEqual(len(story), 2)
        self.assertTrue(all_tuples(story))
        self.assertTrue(own_holds(told.setup, told.rows, story[0]))
        self.assertEqual(len(story[1]), story[0][j][0] - story[0][i][0] + 1)
        self.assertTrue(is_path(story[1], was, now, told.rate))
        self.assertIn(value, story[1])
        self.assertIs(story_holds(told.setup, told.rows, told.channel, at, story), True)

    def test_values_that_no_tick_has(self):
        setup = (((1, 1, 0, 0, 2, 9),), (1, 1), ((0, 5),))
        rows = ((0, 0, 0, 0, 0, 0, ((0, 0),)), (0, 2, 0, 0, 1, 2, ((0, 10),)))
        for value in range(-2, 13):
            self.assertIs(story_with(setup, rows, 0, 0, value) is not None, value in (0, 5, 10))
        rows = ((0, 0, 0, 0, 0, 0, ((0, 0),)), (0, 3, 0, 0, 1, 3, ((0, 10),)))
        self.assertEqual([value for value in range(-9, 19) if story_with(setup, rows, 0, 0, value)], list(range(0, 11)))

    def test_any_value_that_is_a_story(self):
        rights = wrongs = 0
        for seed in range(80):
            told = Story(seed)
            dice = chance(seed)
            for at, (i, j, was, now) in enumerate(told.pairs):
                for turn in range(6):
                    times = [list(pair) for pair in dice.choice(told.courses)]
                    path = list(dice.choice(told.paths[at]))
                    if dice.random() < 0.3:
                        times[dice.randrange(len(times))][dice.randrange(2)] += dice.choice((-1, 1))
                    if dice.random() < 0.3:
                        path[dice.randrange(len(path))] += dice.choice((-2, 1, 3))
                    own = own_holds(told.setup, told.rows, times) and len(path) == times[j][0] - times[i][0] + 1
                    own = own and is_path(path, was, now, told.rate)
                    self.assertIs(story_holds(told.setup, told.rows, told.channel, at, [times, path]), own)
                    rights += own
                    wrongs += not own
        self.assertGreater(min(rights, wrongs), 50)

    def test_any_value_that_is_none(self):
        good = story_with(SETUP, ROWS, 0, 1, 12)
        self.assertIs(story_holds(setup=SETUP, rows=ROWS, channel=0, at=1, value=good), True)
        bad_ones = [*ODD, good[:1], good + good[:1], (good[0], good[1][:-1]), (good[0], good[1] + good[1][-1:]), (good[1], good[0])]
        bad_ones += [(bad, good[1]) for bad in ODD] + [(good[0], bad) for bad in ODD]
        bad_ones += [(good[0], with_part(good[1], 1, bad)) for bad in (None, True, "7", 6.0, (6,))]
        bad_ones += [(good[0][:2], good[1]), (with_part(good[0], 0, (0, True)), good[1])]
        for bad in bad_ones:
            self.assertIs(story_holds(SETUP, ROWS, 0, 1, bad), False)


class Bounds(unittest.TestCase):
    OPEN_SETUP = (((1, 2, 0, 0, 3, 9),), (1, 1), ((0, 2),))
    OPEN_ROWS = ((0, 0, 0, 0, 0, 10, ((0, 5),)), (0, 4, 0, 0, 1, 13, ((0, 6),)), (1, 0, 0, 1, 0, 0, ((0, 12),)))

    def test_no_bound_between(self):
        told = self.OPEN_SETUP, self.OPEN_ROWS, 0
        self.assertEqual(gaps(*told), ((0, 1, 5, 6, 4, 4), (1, 2, 6, 12, 3, None)))
        self.assertEqual(reach(*told), ((0, 1, 2, 9), (1, 2, None, None)))
        self.assertEqual(limit_words(*told, 12), ((0, 1, "kept"), (1, 2, "open")))
        self.assertEqual(limit_words(*told, 11), ((0, 1, "kept"), (1, 2, "passed")))
        self.assertEqual(limit_words(*told, 10 ** 6), ((0, 1, "kept"), (1, 2, "open")))
        self.assertEqual([limit_word(*told, limit) for limit in (11, 12, 10 ** 6)], ["passed", "open", "open"])
        self.assertEqual(above(*told, 7), ((0, 1, 0, 2), (1, 2, 3, None)))
        self.assertEqual(above(*told, -2), ((0, 1, 5, 5), (1, 2, 4, None)))
        self.assertEqual(above(*told, 10 ** 6), ((0, 1, 0, 0), (1, 2, 0, None)))
        self.assertEqual(surely_above(*told, 1), ((0, 1, 4),))
        self.assertEqual(surely_above(*told, -(10 ** 6)), ((0, 1, 4),))

    def test_far_values_where_there_is_no_bound(self):
        for value in (-1988, -1, 6, 8, 9, 12, 13, 500, 2006):
            story = story_with(self.OPEN_SETUP, self.OPEN_ROWS, 0, 1, value)
            self.assertTrue(own_holds(self.OPEN_SETUP, self.OPEN_ROWS, story[0]))
            self.assertTrue(is_path(story[1], 6, 12, 2))
            self.assertEqual(len(story[1]), story[0][2][0] - story[0][1][0] + 1)
            self.assertIn(value, story[1])
            self.assertIs(story_holds(self.OPEN_SETUP, self.OPEN_ROWS, 0, 1, story), True)

    def test_beside_all_bounds(self):
        for seed in range(150):
            dice = chance(seed)
            setup = some_setup(dice)
            rows, _ = flight(dice, setup, 5)
            if not rows:
                continue
            table = table_of(setup, rows)
            for channel, (_, rate) in enumerate(setup[2]):
                if rate is not None:
                    own = tuple((i, j, *ends, *stretch_of(table, 2 * i, 2 * j)) for i, j, *ends in own_neighbours(rows, channel))
                    self.assertEqual(gaps(setup, rows, channel), own)

    def test_few_readings(self):
        setup = (((1, 2, 0, 0, 3, 9),), (1, 1), ((0, 2), (0, 3)))
        rows = ((0, 0, 0, 0, 0, 10, ()), (0, 4, 0, 0, 1, 13, ((1, 6),)))
        for channel, lone in ((0, "kept"), (1, "kept")):
            self.assertEqual((gaps(setup, rows, channel), reach(setup, rows, channel)), ((), ()))
            self.assertEqual((limit_words(setup, rows, channel, 6), above(setup, rows, channel, 6)), ((), ()))
            self.assertEqual((surely_above(setup, rows, channel, -9), limit_word(setup, rows, channel, 6)), ((), lone))
        self.assertEqual((limit_word(setup, rows, 0, -9), limit_word(setup, rows, 1, 5)), ("kept", "passed"))
        self.assertEqual((limit_word(setup, (), 1, 5), gaps(setup, (), 1)), ("kept", ()))
        self.assertEqual(caught(Refused, story_with, setup, rows, 1, 0, 6).at, 0)
        for call in WITH_LIMIT:
            self.assertIs(caught(Refused, call, setup, rows, 1, True).at, True)

    def test_what_is_surely_above_but_for_one_between(self):
        setup = (((1, 1, 0, 0, 1, 9),), (1, 1), ((0, 1),))
        rows = tuple((0, stamp, 0, 0, at, stamp, ((0, 50),)) for at, stamp in enumerate((0, 2, 4, 13, 14, 23, 25, 26)))
        self.assertEqual(surely_above(setup, rows, 0, 46), ((0, 2, 4), (3, 4, 1), (5, 7, 3)))
        self.assertEqual(surely_above(setup, rows, 0, 45), ((0, 7, 26),))
        self.assertEqual(surely_above(setup, rows, 0, 49), ((3, 4, 1), (6, 7, 1)))

    def test_a_story_of_no_tick_but_one(self):
        setup = (((1, 1, 0, 0, 1, 9),), (1, 1), ((0, 1000),))
        rows = ((0, 0, 0, 0, 0, 0, ((0, -(10 ** 3)),)), (0, 1, 0, 0, 1, 1, ((0, 0),)))
        self.assertEqual(story_with(setup, rows, 0, 0, 0)[1], (-1000, 0))
        self.assertEqual(story_with(setup, rows, 0, 0, -1000)[1], (-1000, 0))
        self.assertIsNone(story_with(setup, rows, 0, 0, -1))


class Errors(unittest.TestCase):
    def test_which_comes_first(self):
        quarrels = ROWS + ((0, 10, 0, 0, 99, 20, ()),)
        for call, more in CALLS:
            self.assertEqual(caught(BadSetup, call, with_part(SETUP, 1, None), None, None, *more).at, 1)
            self.assertEqual(caught(BadRows, call, SETUP, None, None, *more).at, -1)
            self.assertEqual(caught(Quarrel, call, SETUP, quarrels, None, *more).paper, ("numbers", 2, 3))
            for bad in [*ODD, 2, -1, 16, "0", (0,)]:
                self.assertIs(caught(NoChannel, call, SETUP, ROWS, bad, *more).value, bad)
            self.assertEqual(caught(Refused, call, SETUP, ROWS, 1, *more).at, 1)
        for call in WITH_LIMIT:
            for bad in [bad for bad in ODD if bad.__class__ is not int] + ["5", 5.0, (5,), True]:
                self.assertIs(caught(Refused, call, SETUP, ROWS, 0, bad).at, bad)
            for good in (10 ** 40, -(10 ** 40), 0):
                call(SETUP, ROWS, 0, good)
        for call in (story_holds, story_with):
            for bad in [*ODD, 2, 3, "0", True, False]:
                self.assertIs(caught(Refused, call, SETUP, ROWS, 0, bad, None).at, bad)
        for bad in [bad for bad in ODD if bad.__class__ is not int] + ["7", (7,), 7.0, True]:
            self.assertIs(caught(Refused, story_with, SETUP, ROWS, 0, 1, bad).at, bad)
        for far in (10 ** 40, -(10 ** 40)):
            self.assertIsNone(story_with(SETUP, ROWS, 0, 1, far))


class Soon(unittest.TestCase):
    def test_sixty_rows_two_thousand_ticks_apart(self):
        setup = (((1, 2, 0, 900, 1000, 1000),), (1, 2), ((0, 1000),))
        rows = tuple((0, 1000 * at, 0, 0, at, 1000 * at, ((0, 7 * at),)) for at in range(60))
        told = soon(self, 5, gaps, setup, rows, 0)
        table = table_of(setup, rows)
        self.assertEqual([gap[4:] for gap in told], [stretch_of(table, 2 * at, 2 * at + 2) for at in range(59)])
        for call in WITH_LIMIT:
            soon(self, 5, call, setup, rows, 0, 10 ** 5)
        self.assertEqual(soon(self, 5, surely_above, setup, rows, 0, -(10 ** 7)), ((0, 59, stretch_of(table, 0, 118)[0]),))
        for value in (-(10 ** 4), 0, 10 ** 4, 10 ** 6):
            story = soon(self, 5, story_with, setup, rows, 0, 30, value)
            self.assertIs(story is None, not reach(setup, rows, 0)[30][2] <= value <= reach(setup, rows, 0)[30][3])
            if story is not None:
                self.assertIs(soon(self, 5, story_holds, setup, rows, 0, 30, story), True)

    def test_far_apart(self):
        setup = (((100, 100, 0, 0, 1, 1000),), (1, 100), ((0, 1000),))
        rows = ((0, 0, 0, 0, 0, 0, ((0, 0),)), (0, 10 ** 6, 0, 0, 64, 10 ** 6, ((0, 10 ** 6),)))
        self.assertEqual(soon(self, 5, above, setup, rows, 0, -1), ((0, 1, 1002, 10 ** 8 + 1),))
        self.assertEqual(soon(self, 5, above, setup, rows, 0, 10 ** 6), ((0, 1, 0, 10 ** 8 - 1001),))
        self.assertEqual(soon(self, 5, reach, setup, rows, 0)[0][3], (10 ** 11 + 10 ** 6) // 2)
        pairs = course_at(setup, rows, ("sent", 0), ("sent", 1), 10 ** 8)
        self.assertIs(soon(self, 5, story_holds, setup, rows, 0, 0, (pairs, (0, 10 ** 6))), False)
        self.assertEqual(len(course(setup, rows)), 2)


if __name__ == "__main__":
    unittest.main()
