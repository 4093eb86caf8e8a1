"""Points [48] to [51]: which of two happenings came ahead, papers of it, and rows as they come."""

import unittest

from plain import ODD, all_tuples, caught, chance, flight, soon, some_setup, with_part
from plain_courses import bent_rows, edges_with_words, few_rows, own_holds, own_numbers, stretch_of, table_of
from test_courses import FALSE, NO_HAPPENINGS, RING, ROWS, SETUP, happening, ring_stands
from wrecktold.courses import quarrel, stretch
from wrecktold.errors import BadFrame, BadRows, BadSetup, NoHappening, Quarrel
from wrecktold.order import Story, open_holds, order, order_paper, order_word, orders

CALLS = [(order, (None, None)), (orders, ()), (order_paper, (None, None)), (open_holds, (None, None, None))]


def own_word(stretch):
    """The word of a stretch."""
    least, greatest = stretch
    if least is not None and least > 0:
        return "ahead"
    if greatest is not None and greatest < 0:
        return "behind"
    return "at once" if (least, greatest) == (0, 0) else "open"


def between(course, x, y):
    """How far time y is behind time x in a course."""
    return course[y // 2][y % 2] - course[x // 2][x % 2]


def sign(number):
    return (number > 0) - (number < 0)


def way_stands(setup, rows, x, y, words, most):
    """Whether edges of these bounds of neighbours lead from time x to time y, just so much in all."""
    told = edges_with_words(setup, rows, any_two=False)
    ends = {(x, 0)}
    for word in words:
        lot = [edge[1:] for edge in told if edge[0] == word]
        ends = {(head, total + weight) for at, total in ends for tail, head, weight in lot if tail == at}
    return (y, most) in ends


class Words(unittest.TestCase):
    def test_of_stretches(self):
        for ends in [(1, 2), (1, None), (-2, -1), (None, -1), (0, 0), (0, 1), (-1, 0), (None, 0), (0, None), (None, None), (-1, 1), (5, 5)]:
            self.assertEqual(order_word(ends), own_word(ends))
            self.assertEqual(order_word(told=list(ends)), own_word(ends))

    def test_the_examples(self):
        self.assertEqual(order(SETUP, ROWS, ("sent", 0), ("heard", 2)), "ahead")
        self.assertEqual(order(setup=SETUP, rows=list(ROWS), one=["heard", 2], other=["sent", 0]), "behind")
        self.assertEqual(order(SETUP, ROWS, ("sent", 1), ("heard", 1)), "at once")
        self.assertEqual(order(SETUP, ROWS, ("sent", 0), ("heard", 0)), "open")
        self.assertEqual(order_paper(setup=SETUP, rows=ROWS, one=("sent", 1), other=("heard", 1)), ("sure", (("way", 1), ("way", 1))))
        paper = order_paper(SETUP, ROWS, ("sent", 0), ("heard", 0))
        self.assertIs(open_holds(setup=SETUP, rows=ROWS, one=("sent", 0), other=("heard", 0), value=paper), True)

    def test_just_as_in_all_courses(self):
        seen = {}
        for seed in range(120):
            setup, rows, found = few_rows(chance(seed))
            told = orders(setup=setup, rows=rows)
            self.assertTrue(all_tuples(told))
            self.assertEqual(len(told), 2 * len(rows))
            for x in range(2 * len(rows)):
                for y in range(2 * len(rows)):
                    signs = {sign(between(pairs, x, y)) for pairs in found}
                    word = {(1,): "ahead", (-1,): "behind", (0,): "at once"}.get(tuple(signs), "open")
                    seen[word] = True
                    self.assertEqual(told[x][y], word)
                    self.assertEqual(order(setup, rows, happening(x), happening(y)), word)
        self.assertEqual(len(seen), 4)

    def test_beside_all_bounds(self):
        for seed in range(100):
            dice = chance(seed)
            setup = some_setup(dice)
            rows, _ = flight(dice, setup)
            if not rows:
                self.assertEqual(orders(setup, rows), ())
                continue
            table = table_of(setup, rows)
            own = tuple(tuple(own_word(stretch_of(table, x, y)) for y in range(len(table))) for x in range(len(table)))
            self.assertEqual(orders(setup, rows), own)
            for line in own:
                behind = [own[y] for y, word in enumerate(line) if word == "ahead"]
                self.assertTrue(all(line[z] == "ahead" for other in behind for z, word in enumerate(other) if word == "ahead"))

    def test_a_word_that_is_not_open_stays(self):
        told = {}
        for seed in range(80):
            dice = chance(seed)
            setup = some_setup(dice)
            rows, _ = flight(dice, setup, 3)
            for many in range(1, len(rows)):
                was = orders(setup, rows[:many])
                now = orders(setup, rows[:many + 1])
                for x, line in enumerate(was):
                    for y, word in enumerate(line):
                        if word != "open":
                            self.assertEqual(now[x][y], word)
                        told[now[x][y] != word] = True
        self.assertEqual(len(told), 2)

    def test_which_error_comes_first(self):
        for call, more in CALLS:
            self.assertEqual(caught(BadSetup, call, with_part(SETUP, 0, ()), None, *more).at, 0)
            self.assertEqual(caught(BadRows, call, SETUP, 7, *more).at, -1)
            self.assertEqual(caught(Quarrel, call, SETUP, FALSE, *more).paper, ("numbers", 2, 3))
            self.assertEqual(caught(Quarrel, call, SETUP, RING, *more).paper, quarrel(SETUP, RING))
            if more:
                for bad in NO_HAPPENINGS:
                    self.assertIs(caught(NoHappening, call, SETUP, ROWS, bad, None, *more[2:]).value, bad)
                    self.assertIs(caught(NoHappening, call, SETUP, ROWS, ("sent", 1), bad, *more[2:]).value, bad)


class Papers(unittest.TestCase):
    def look(self, setup, rows, x, y, own):
        """Looks at the paper of two happenings, the stretch between them being known."""
        paper = order_paper(setup, rows, happening(x), happening(y))
        self.assertTrue(all_tuples(paper))
        if own_word(own) == "open":
            word, one, other = paper
            self.assertTrue(own_holds(setup, rows, one) and own_holds(setup, rows, other))
            self.assertEqual(between(one, x, y), -1 if own[0] is None else own[0])
            self.assertEqual(between(other, x, y), 1 if own[1] is None else own[1])
            self.assertIs(open_holds(setup, rows, happening(x), happening(y), paper), True)
            self.assertEqual(word, "open")
            return
        word, words = paper
        self.assertEqual(word, "sure")
        if own_word(own) == "ahead":
            self.assertTrue(way_stands(setup, rows, y, x, words, -own[0]))
        if own_word(own) == "behind":
            self.assertTrue(way_stands(setup, rows, x, y, words, own[1]))
        if own_word(own) == "at once":
            cuts = range(len(words) + 1)
            ways = [way_stands(setup, rows, x, y, words[:at], 0) and way_stands(setup, rows, y, x, words[at:], 0) for at in cuts]
            self.assertIn(True, ways)
        self.assertIs(open_holds(setup, rows, happening(x), happening(y), paper), False)

    def test_open_pairs_and_sure_ones(self):
        seen = {}
        for seed in range(120):
            dice = chance(seed)
            setup = some_setup(dice)
            rows, _ = flight(dice, setup, 3)
            table = table_of(setup, rows)
            for turn in range(10 if rows else 0):
                x, y = dice.randrange(len(table)), dice.randrange(len(table))
                own = stretch_of(table, x, y)
                self.look(setup, rows, x, y, own)
                seen[own_word(own)] = True
                if own_word(own) == "open":
                    seen[own[0] is None, own[1] is None] = True
        self.assertEqual(len(seen), 7)

    def test_one_and_the_same(self):
        for place in range(3):
            for word in ("sent", "heard"):
                self.assertEqual(order_paper(SETUP, ROWS, (word, place), (word, place)), ("sure", ()))

    def test_ways_are_the_shortest(self):
        self.assertEqual(order_paper(SETUP, ROWS, ("sent", 0), ("sent", 2)), ("sure", (("clock", 0, 2),)))
        self.assertEqual(order_paper(SETUP, ROWS, ("heard", 2), ("heard", 0)), ("sure", (("recorder", 1, 2), ("recorder", 0, 1))))

    def test_any_value_that_is_two_courses_that_part(self):
        told = {}
        for seed in range(60):
            dice = chance(seed)
            setup, rows, found = few_rows(dice)
            for turn in range(12):
                x, y = dice.randrange(2 * len(rows)), dice.randrange(2 * len(rows))
                one, other = [[list(pair) for pair in dice.choice(found)] for _ in range(2)]
                if dice.random() < 0.3:
                    one[dice.randrange(len(one))][dice.randrange(2)] += dice.choice((-1, 1, 2))
                own = own_holds(setup, rows, one) and own_holds(setup, rows, other)
                own = own and sign(between(one, x, y)) != sign(between(other, x, y))
                self.assertIs(open_holds(setup, rows, happening(x), happening(y), ["open", one, other]), own)
                told[own] = True
        self.assertEqual(len(told), 2)

    def test_any_value_that_is_none(self):
        _, one, other = order_paper(SETUP, ROWS, ("sent", 0), ("heard", 0))
        ask = SETUP, ROWS, ("sent", 0), ("heard", 0)
        self.assertIs(open_holds(*ask, ("open", other, one)), True)
        bad_ones = [*ODD, ("open", one), ("open", one, other, one), ("open", one, one), ("Open", one, other), ("sure", one, other)]
        bad_ones += [(None, one, other), (one, "open", other), (("open",), one, other), ("open", one, other[:2])]
        bad_ones += [("open", bad, other) for bad in ODD] + [["open", one, bad] for bad in ODD] + [(bad, one, other) for bad in ODD]
        for bad in bad_ones:
            self.assertIs(open_holds(*ask, bad), False)


class Stories(unittest.TestCase):
    def test_the_example(self):
        story = Story(setup=[list(part) for part in SETUP])
        self.assertEqual((story.setup, story.rows), (SETUP, ()))
        self.assertTrue(all_tuples(story.setup))
        self.assertEqual([story.take(row=list(row)) for row in ROWS], [0, 1, 2])
        self.assertEqual(story.order(one=("sent", 0), other=["sent", 1]), "ahead")
        self.assertEqual(story.rows, ROWS)
        self.assertTrue(all_tuples(story.rows))
        self.assertEqual(caught(BadSetup, Story, with_part(SETUP, 1, (0, 1))).at, 1)

    def try_row(self, story, row):
        """Takes a row beside the test's own look at it; the kind of its answer."""
        was, many = story.rows, len(story.rows)
        rows = was + (row,)
        fallen = many and row[:2] < was[-1][:2]
        behind = [other for other in was if other[2] == row[2] and other[3:6:2] >= row[3:6:2]]
        if fallen or behind or many == 200:
            self.assertEqual(caught(BadRows, story.take, row).at, many)
            kind = "rows"
        elif own_numbers(story.setup, rows) is not None:
            self.assertEqual(caught(Quarrel, story.take, row).paper, own_numbers(story.setup, rows))
            kind = "numbers"
        elif table_of(story.setup, rows) is None:
            paper = caught(Quarrel, story.take, row).paper
            self.assertTrue(paper[0] == "ring" and ring_stands(story.setup, rows, paper[1]))
            kind = "ring"
        else:
            self.assertEqual(story.take(row), many)
            self.assertEqual(story.rows, rows)
            return "taken"
        self.assertEqual(story.rows, was)
        return kind

    def test_rows_as_they_come(self):
        kinds = {}
        for seed in range(60):
            dice = chance(seed)
            setup = some_setup(dice)
            rows, _ = flight(dice, setup)
            story = Story(setup)
            for many in range(len(rows)):
                bent = bent_rows(dice, setup, rows[:many + 1])
                tries = [dice.choice(rows)] if dice.random() < 0.5 else []
                tries += [bent[-1]] if bent is not None and dice.random() < 0.7 else []
                for row in [*tries, rows[many]]:
                    kinds[self.try_row(story, row)] = True
                    if story.rows:
                        self.look_at_orders(dice, story)
        self.assertEqual(sorted(kinds), ["numbers", "ring", "rows", "taken"])

    def look_at_orders(self, dice, story):
        table = table_of(story.setup, story.rows)
        for turn in range(4):
            x, y = dice.randrange(len(table)), dice.randrange(len(table))
            self.assertEqual(story.order(happening(x), happening(y)), own_word(stretch_of(table, x, y)))
        far = happening(len(table))
        self.assertEqual(caught(NoHappening, story.order, far, None).value, far)
        self.assertIsNone(caught(NoHappening, story.order, ("sent", 0), None).value)

    def test_any_value_that_is_no_row(self):
        story = Story(SETUP)
        for bad in ODD:
            self.assertEqual(caught(BadFrame, story.take, bad).at, -1)
        for at, part in [(0, 256), (1, -1), (2, 2), (3, None), (4, 256), (5, True), (6, ((1, 5),))]:
            self.assertEqual(caught(BadFrame, story.take, with_part(ROWS[0], at, part)).at, at)
        self.assertEqual(story.rows, ())
        for bad in NO_HAPPENINGS:
            self.assertIs(caught(NoHappening, story.order, bad, bad).value, bad)
        self.assertEqual(caught(NoHappening, story.order, ("sent", 0), ("sent", 0)).value, ("sent", 0))

    def test_later_changes_of_what_was_passed(self):
        row = [0, 4, 0, 0, 7, 1, [[0, 10]]]
        setup = [list(part) for part in SETUP]
        story = Story(setup)
        story.take(row)
        row[1], row[6][0][1], setup[1] = 99, 77, (9, 9)
        self.assertEqual((story.setup, story.rows), (SETUP, ROWS[:1]))

    def test_two_hundred_rows_and_one_more(self):
        setup = (((1, 100, 0, 0, 1, 1000), (2, 3, 0, 9, 5, 9)), (1, 100), ((0, 5), (1, None)))
        rows = []
        for at in range(201):
            first = at // 2
            readings = ((0, first % 7),) if at % 2 == 0 else ((1, at),)
            rows.append((0, 10 * at, at % 2, 0, first % 256, 8 * first, readings))
        story = Story(setup)
        self.assertEqual(soon(self, 20, lambda: [story.take(row) for row in rows[:200]]), list(range(200)))
        for row in (rows[200], with_part(rows[200], 4, 0), rows[0]):
            self.assertEqual(soon(self, 5, caught, BadRows, story.take, row).at, 200)
        self.assertEqual(caught(BadFrame, story.take, rows[200][:6]).at, -1)
        self.assertEqual(story.rows, tuple(rows[:200]))
        self.assertEqual(soon(self, 5, story.order, ("heard", 199), ("sent", 0)), "behind")
        for x, y in [(0, 399), (398, 1), (17, 18), (100, 103)]:
            told = soon(self, 5, stretch, setup, rows[:200], happening(x), happening(y))
            self.assertEqual(story.order(happening(x), happening(y)), own_word(told))


class Limits(unittest.TestCase):
    def test_forty_rows_soon(self):
        sources = tuple((1, 100, 0, 0, 1, 1000) for _ in range(8))
        setup = (sources, (1, 100), tuple((at % 8, 1000) for at in range(16)))
        rows = tuple((0, 5 * at, at % 8, 0, at // 8, 10 ** 4 * (at // 8 + 1) // 50, ((at % 8, at),)) for at in range(40))
        table = table_of(setup, rows)
        told = soon(self, 5, orders, setup, rows)
        self.assertEqual(told, tuple(tuple(own_word(stretch_of(table, x, y)) for y in range(80)) for x in range(80)))
        paper = soon(self, 5, order_paper, setup, rows, ("sent", 0), ("heard", 39))
        self.assertTrue(way_stands(setup, rows, 79, 0, paper[1], table[79][0]))


if __name__ == "__main__":
    unittest.main()
