"""Points [57] to [59]: what caused what, beside all courses of few rows."""

import itertools
import unittest

from plain import ODD, all_tuples, caught, chance, soon, with_part
from plain_courses import dense_rows, loose_rows, own_holds, stretch_of, table_of
from test_courses import FALSE, ROWS, SETUP
from test_questions import NO_CHANNELS, NO_MARKS, can, choices, own_marked
from wrecktold.causes import bare_course, chain_course, chain_word, explained, explained_course, roots, sure_links, surely_from
from wrecktold.errors import BadRows, BadSetup, Quarrel, Refused, TooGreat


def with_most(call):
    """A search as a function of the arguments ahead of its `most`."""
    return lambda *args: call(*args, most=9)


CALLS = [
    (explained_course, (None,)), (with_most(bare_course), (None,)), (with_most(explained), (None,)), (with_most(roots), ()),
    (chain_course, (None,)), (chain_word, (None,)), (sure_links, ()), (surely_from, (None,)),
]
OF_PLACE = [explained_course, with_most(bare_course), with_most(explained), surely_from]
OF_CHAIN = [chain_course, chain_word]


def some_mark(dice, setup):
    """A mark by chance, often of many rows."""
    low = dice.choice((-20, -20, -20, 0, 1, 2))
    return dice.randrange(len(setup[2])), low, low + dice.choice((0, 1, 40, 40, 40, 40))


def some_causes(dice, setup, many=3):
    """Causes by chance."""
    causes = []
    for _ in range(dice.choice((0, many, many, many, many))):
        least = dice.choice((0, 0, 1, 2, 4))
        causes.append((some_mark(dice, setup), some_mark(dice, setup), least, least + dice.choice((0, 1, 3, 9))))
    return causes


def own_links(rows, causes):
    """All links: (number of a cause, place, place)."""
    return [
        (number, i, j) for number, (first, second, _, _) in enumerate(causes)
        for i in own_marked(rows, first) for j in own_marked(rows, second) if i != j
    ]


def is_so(course, causes, link):
    number, i, j = link
    return causes[number][2] <= course[j][0] - course[i][0] <= causes[number][3]


def is_caused(course, causes, links, place):
    return any(is_so(course, causes, link) for link in links if link[2] == place)


def own_ways(courses, rows, causes, place):
    """By count of causes of the told row, in how many ways courses part the rows of their first marks."""
    numbers = [number for number, cause in enumerate(causes) if place in own_marked(rows, cause[1])]
    found = [set() for _ in numbers]
    for course in courses:
        way = []
        for at, number in enumerate(numbers):
            ticks = [course[place][0] - course[other][0] for other in own_marked(rows, causes[number][0]) if other != place]
            if any(causes[number][2] <= many <= causes[number][3] for many in ticks):
                break
            way.append(tuple(many > causes[number][3] for many in ticks))
            found[at].add(tuple(way))
    return [len(ways) for ways in found]


class Examples(unittest.TestCase):
    SETUP = (((1, 1, 0, 2, 3, 9), (1, 1, 0, 2, 3, 9)), (1, 1), ((0, None), (1, None)))
    ROWS = [(0, 0, 0, 0, 0, 10, ((0, 1),)), (0, 4, 1, 0, 0, 50, ((1, 7),)), (0, 6, 0, 0, 1, 16, ((0, 2),))]
    CAUSES = [((0, 1, 1), (1, 7, 7), 2, 6), ((0, 1, 1), (0, 2, 2), 0, 6), ((1, 7, 7), (0, 2, 2), 1, 2)]

    def test_those_of_the_document(self):
        told = self.SETUP, self.ROWS, self.CAUSES
        self.assertEqual([explained(*told, place, most=9) for place in (0, 1, 2)], ["never", "always", "always"])
        self.assertEqual(roots(setup=told[0], rows=told[1], causes=told[2], most=9), ())
        self.assertEqual(sure_links(setup=told[0], rows=told[1], causes=told[2]), ((0, 0, 1), (1, 0, 2)))
        self.assertEqual(surely_from(setup=told[0], rows=told[1], causes=told[2], place=0), (0, 1, 2))
        self.assertEqual(chain_word(setup=told[0], rows=told[1], causes=told[2], chain=[[0, 0, 1], (2, 1, 2)]), "open")
        self.assertEqual(explained(setup=told[0], rows=told[1], causes=told[2][2:], place=2, most=9), "open")
        self.assertIsNone(bare_course(setup=told[0], rows=told[1], causes=told[2][:1], place=1, most=9))
        number, other, pairs = explained_course(setup=told[0], rows=told[1], causes=told[2], place=1)
        self.assertEqual((number, other), (0, 0))
        self.assertTrue(own_holds(*told[:2], pairs))
        self.assertTrue(own_holds(*told[:2], chain_course(setup=told[0], rows=told[1], causes=told[2], chain=[(0, 0, 1), (2, 1, 2)])))


class ByAllCourses(unittest.TestCase):
    def test_explained(self):
        seen = {}
        for seed in range(500):
            dice = chance(seed)
            setup, rows, found = dense_rows(dice, most=150)
            causes = some_causes(dice, setup)
            links = own_links(rows, causes)
            own_roots = []
            for place in range(len(rows)):
                own = {is_caused(pairs, causes, links, place) for pairs in found}
                word = "open" if len(own) == 2 else "always" if True in own else "never"
                self.assertEqual(explained(setup, rows, causes, place, most=500), word)
                seen[word, any((number, place) for number, _, j in links if j == place)] = True
                self.look_at_courses(setup, rows, causes, links, place, own)
                if any(place in own_marked(rows, cause[1]) for cause in causes) and word != "always":
                    own_roots.append(place)
            told = roots(setup, rows, causes, most=500)
            self.assertEqual(told, tuple(own_roots))
            self.assertTrue(all_tuples(told))
        self.assertEqual(len(seen), 4)

    def look_at_courses(self, setup, rows, causes, links, place, own):
        told = explained_course(setup, rows, causes, place)
        self.assertIs(told is not None, True in own)
        if told is not None:
            number, other, pairs = told
            self.assertTrue(all_tuples(told) and own_holds(setup, rows, pairs))
            self.assertIn((number, other, place), links)
            self.assertTrue(is_so(pairs, causes, (number, other, place)))
        told = bare_course(setup, rows, causes, place, most=500)
        self.assertIs(told is not None, False in own)
        if told is not None:
            self.assertTrue(all_tuples(told) and own_holds(setup, rows, told))
            self.assertFalse(is_caused(told, causes, links, place))

    def test_too_great_only_where_there_are_more_ways(self):
        told = {}
        for seed in range(400):
            dice = chance(seed)
            setup, rows, found = dense_rows(dice, most=150)
            causes = some_causes(dice, setup, 5)
            links = own_links(rows, causes)
            worst = []
            for place in range(len(rows)):
                ways = own_ways(found, rows, causes, place)
                worst.append(max(ways, default=1))
                can_be = not all(is_caused(pairs, causes, links, place) for pairs in found)
                for most in (1, 2, max(1, worst[-1] - 1), worst[-1], worst[-1] + 1):
                    self.try_most(told, ways, most, can_be, bare_course, setup, rows, causes, place)
                    word = {(True, True): "open", (True, False): "always", (False, True): "never"}
                    own = any(is_caused(pairs, causes, links, place) for pairs in found), can_be
                    self.try_most(told, ways, most, word[own], explained, setup, rows, causes, place)
            for most in (1, max(worst) - 1, max(worst)):
                try:
                    roots(setup, rows, causes, most=max(1, most))
                except TooGreat as error:
                    self.assertEqual(error.most, max(1, most))
                    self.assertGreater(max(worst), most)
        self.assertIn(False, told)

    def try_most(self, told, ways, most, own, call, *args):
        """A search is answered rightly, or there are more ways than are allowed."""
        try:
            answer = call(*args, most=most)
        except TooGreat as error:
            self.assertEqual(error.most, most)
            self.assertGreater(max(ways), most)
            told[True] = True
        else:
            self.assertEqual(answer is not None if call is bare_course else answer, own)
            told[False] = True

    def test_sure_links(self):
        many = far = 0
        for seed in range(300):
            dice = chance(seed)
            setup, rows, found = dense_rows(dice, most=150)
            causes = some_causes(dice, setup)
            links = own_links(rows, causes)
            own = tuple(sorted(link for link in links if all(is_so(pairs, causes, link) for pairs in found)))
            told = sure_links(setup, rows, causes)
            self.assertEqual(told, own)
            self.assertTrue(all_tuples(told))
            many += len(own)
            for place in range(len(rows)):
                led = {place}
                for turn in rows:
                    led |= {j for _, i, j in own if i in led}
                self.assertEqual(surely_from(setup, rows, causes, place), tuple(sorted(led)))
                far += len(led) > 2
        self.assertGreater(many, 150)
        self.assertGreater(far, 10)

    def test_chains(self):
        seen = {}
        for seed in range(500):
            dice = chance(seed)
            setup, rows, found = dense_rows(dice, most=150)
            causes = some_causes(dice, setup, 5)
            links = own_links(rows, causes)
            for turn in range(4 if links else 0):
                chain = [dice.choice(links)]
                while dice.random() < 0.6 and [link for link in links if link[1] == chain[-1][2]]:
                    chain.append(dice.choice([link for link in links if link[1] == chain[-1][2]]))
                own = {all(is_so(pairs, causes, link) for link in chain) for pairs in found}
                word = "open" if len(own) == 2 else "always" if True in own else "never"
                self.assertEqual(chain_word(setup, rows, causes, [list(link) for link in chain]), word)
                pairs = chain_course(setup, rows, causes, chain)
                self.assertIs(pairs is not None, True in own)
                if pairs is not None:
                    self.assertTrue(all_tuples(pairs) and own_holds(setup, rows, pairs))
                    self.assertTrue(all(is_so(pairs, causes, link) for link in chain))
                if word == "never" and all(any(is_so(pairs, causes, link) for pairs in found) for link in chain):
                    word = "each but not all"
                seen[word, len(chain) > 1] = True
        self.assertGreater(len(seen), 5)


class WithoutBound(unittest.TestCase):
    """Rows of which some have no bound between them: by all choices of bounds more, row by row."""

    def test_explained_and_bare(self):
        seen = {}
        for seed in range(400):
            dice = chance(seed)
            setup, rows = loose_rows(dice)
            causes = some_causes(dice, setup, 4)
            links = own_links(rows, causes)
            for place in range(len(rows)):
                lots = []
                for number, i, _ in [link for link in links if link[2] == place]:
                    least, most = causes[number][2:]
                    lots.append(([(2 * place, 2 * i, -most - 1)], [(2 * i, 2 * place, least - 1)]))
                if len(lots) > 6:
                    continue
                bare = choices(setup, rows, lots)
                so = any(self.can_be(setup, rows, causes, link) for link in links if link[2] == place)
                word = "open" if so and bare else "always" if so else "never"
                self.assertEqual(explained(setup, rows, causes, place, most=500), word)
                told = bare_course(setup, rows, causes, place, most=500)
                self.assertIs(told is not None, bare)
                if bare:
                    self.assertTrue(own_holds(setup, rows, told) and not is_caused(told, causes, links, place))
                seen[word, len(lots) > 2] = True
        self.assertEqual(len(seen), 6)

    def can_be(self, setup, rows, causes, link):
        number, i, j = link
        return can(setup, rows, [(2 * i, 2 * j, causes[number][3]), (2 * j, 2 * i, -causes[number][2])])

    def test_links(self):
        sure = 0
        for seed in range(200):
            dice = chance(seed)
            setup, rows = loose_rows(dice)
            causes = some_causes(dice, setup, 5)
            table = table_of(setup, rows)
            own = []
            for number, i, j in own_links(rows, causes):
                least, greatest = stretch_of(table, 2 * i, 2 * j)
                if least is not None and greatest is not None and causes[number][2] <= least and greatest <= causes[number][3]:
                    own.append((number, i, j))
            self.assertEqual(sure_links(setup, rows, causes), tuple(sorted(own)))
            sure += len(own)
        self.assertGreater(sure, 20)

    def test_what_stays_with_rows_more(self):
        stays = {}
        for seed in range(100):
            dice = chance(seed)
            setup, rows, _ = dense_rows(dice, most=150)
            causes = some_causes(dice, setup)
            for many in range(1, len(rows)):
                for place in range(many):
                    was = explained(setup, rows[:many], causes, place, most=500)
                    now = explained(setup, rows[:many + 1], causes, place, most=500)
                    self.assertTrue(was != "always" or now == "always")
                    stays[was, now] = True
                was = sure_links(setup, rows[:many], causes)
                self.assertLessEqual(set(was), set(sure_links(setup, rows[:many + 1], causes)))
        self.assertIn(("always", "always"), stays)
        self.assertGreater(len(stays), 2)


class Edges(unittest.TestCase):
    def test_a_row_of_both_marks_does_not_cause_itself(self):
        setup = (((1, 1, 0, 0, 2, 9),), (1, 1), ((0, None),))
        rows = tuple((0, 4 * at, 0, 0, at, 4 * at, ((0, 1),)) for at in range(3))
        cause = [((0, 1, 1), (0, 1, 1), 0, 4)]
        self.assertEqual([explained(setup, rows, cause, place, most=1) for place in range(3)], ["never", "always", "always"])
        self.assertEqual(sure_links(setup, rows, cause), ((0, 0, 1), (0, 1, 2)))
        self.assertEqual(roots(setup, rows, cause, most=1), (0,))
        self.assertEqual([surely_from(setup, rows, cause, place) for place in range(3)], [(0, 1, 2), (1, 2), (2,)])
        self.assertTrue(own_holds(setup, rows, bare_course(setup, rows, cause, 0, most=1)))
        self.assertIs(caught(Refused, chain_word, setup, rows, cause, bad := [(0, 1, 1)]).at, bad)
        self.assertEqual(chain_word(setup, rows, cause, [(0, 0, 1), (0, 1, 2)]), "always")
        self.assertEqual(chain_word(setup, rows, cause, [(0, 0, 2)]), "never")
        self.assertIsNone(chain_course(setup, rows, cause, [(0, 0, 2)]))

    def test_least_and_most_are_in(self):
        setup = (((1, 1, 0, 0, 2, 9),), (1, 1), ((0, None),))
        rows = tuple((0, 4 * at, 0, 0, at, 4 * at, ((0, at),)) for at in range(2))
        for least, most, word in [(4, 4, "always"), (0, 4, "always"), (4, 9, "always"), (5, 9, "never"), (0, 3, "never")]:
            cause = [((0, 0, 0), (0, 1, 1), least, most)]
            self.assertEqual(explained(setup, rows, cause, 1, most=9), word)
            self.assertEqual(chain_word(setup, rows, cause, [(0, 0, 1)]), word)
            self.assertEqual(sure_links(setup, rows, cause), ((0, 0, 1),) if word == "always" else ())
            self.assertEqual(roots(setup, rows, cause, most=9), () if word == "always" else (1,))

    def test_at_one_tick(self):
        setup = (((1, 1, 0, 0, 2, 9), (1, 1, 0, 0, 2, 9)), (1, 1), ((0, None), (1, None)))
        rows = ((0, 0, 0, 0, 0, 0, ((0, 1),)), (0, 0, 1, 0, 0, 0, ((1, 1),)))
        causes = [((0, 1, 1), (1, 1, 1), 0, 0), ((1, 1, 1), (0, 1, 1), 0, 5)]
        self.assertEqual(sure_links(setup, rows, causes), ((0, 0, 1), (1, 1, 0)))
        self.assertEqual(chain_word(setup, rows, causes, [(0, 0, 1), (1, 1, 0)] * 6), "always")
        self.assertEqual(surely_from(setup, rows, causes, 1), (0, 1))

    def test_no_causes_and_no_rows(self):
        self.assertEqual(explained(SETUP, ROWS, [], 0, most=1), "never")
        self.assertTrue(own_holds(SETUP, ROWS, bare_course(SETUP, ROWS, (), 2, most=1)))
        self.assertIsNone(explained_course(SETUP, ROWS, [], 0))
        self.assertEqual((roots(SETUP, ROWS, (), most=1), sure_links(SETUP, ROWS, []), surely_from(SETUP, ROWS, [], 1)), ((), (), (1,)))
        cause = [((0, 0, 9), (1, 0, 9), 0, 9)]
        self.assertEqual((roots(SETUP, (), cause, most=1), sure_links(SETUP, (), cause)), ((), ()))
        self.assertEqual(caught(Refused, surely_from, SETUP, (), cause, 0).at, 0)


class Errors(unittest.TestCase):
    GOOD = [((0, 10, 10), (1, 1, 1), 0, 9), ((1, 1, 1), (0, 25, 25), 0, 9)]

    def test_those_of_rows_come_first(self):
        for call, more in CALLS:
            self.assertEqual(caught(BadSetup, call, with_part(SETUP, 0, None), None, None, *more).at, 0)
            self.assertEqual(caught(BadRows, call, SETUP, None, None, *more).at, -1)
            self.assertEqual(caught(Quarrel, call, SETUP, FALSE, None, *more).paper, ("numbers", 2, 3))

    def test_what_is_no_causes(self):
        good = self.GOOD[0]
        bad_ones = [bad for bad in ODD if bad not in ([], ())]
        bad_ones += [[good, part] for part in ODD] + [[with_part(good, at, part)] for at in (2, 3) for part in (None, True, -1, "1", (1,))]
        bad_ones += [[good[:3]], [good + (1,)], [with_part(good, 2, 10)], good]
        bad_ones += [[with_part(good, at, bad)] for at in (0, 1) for bad in NO_CHANNELS]
        bad_ones += [[with_part(good, at, bad)] for at in (0, 1) for bad in NO_MARKS]
        for bad in bad_ones:
            for call, more in CALLS:
                self.assertIs(caught(Refused, call, SETUP, ROWS, bad, *more).at, bad)

    def test_what_is_no_place(self):
        for call in OF_PLACE:
            for bad in [*ODD, 3, -1, True, "0", (0,)]:
                self.assertIs(caught(Refused, call, SETUP, ROWS, self.GOOD, bad).at, bad)

    def test_what_is_no_chain(self):
        good = [(0, 0, 1), (1, 1, 2)]
        bad_ones = [*ODD, [good[0], good[0]], good[::-1], [good[0], None], good + good]
        bad_ones += [[link] for link in [(0, 0), (0, 0, 2), (0, 0, 1, 2), (2, 0, 1), (-1, 0, 1), (0, 3, 1), (0, 0, 3), (0, 1, 1), (0, 1, 0), (0, 2, 1)]]
        bad_ones += [[link] for link in [(False, 0, 1), (0, False, 1), (0, 0, True), ("0", 0, 1), (0, None, 1), (0, 0, (1,)), (1, 0, 1)]]
        for call in OF_CHAIN:
            for bad in bad_ones:
                self.assertIs(caught(Refused, call, SETUP, ROWS, self.GOOD, bad).at, bad)
            self.assertIsNotNone(call(SETUP, ROWS, self.GOOD, good))
            self.assertIsNotNone(call(SETUP, ROWS, self.GOOD, tuple(good[1:])))


class Soon(unittest.TestCase):
    def test_forty_rows_and_six_causes(self):
        sources = ((1, 100, 0, 0, 1, 1000), (1, 100, 0, 0, 1, 1000))
        setup = (sources, (1, 100), ((0, None), (1, None)))
        rows = tuple((at, 0, at % 2, 0, at // 2, 3 * (at // 2), ((at % 2, 1),)) for at in range(40))
        for causes in (
            [((0, 0, 9), (1, 0, 9), 20 * at, 20 * at + 5) for at in range(6)], [((0, 0, 9), (0, 0, 9), 20 * at, 20 * at + 5) for at in range(6)],
            [((0, 0, 9), (1, 0, 9), 0, 10 ** 6 - at) for at in range(6)],
        ):
            for most in (1, 500):
                self.answered_or_too_great(roots, most, setup, rows, causes)
                self.answered_or_too_great(explained, most, setup, rows, causes, 38)
                self.answered_or_too_great(bare_course, most, setup, rows, causes, 39)
            links = soon(self, 5, sure_links, setup, rows, causes)
            self.assertEqual(links, tuple(sorted(links)))
            soon(self, 5, surely_from, setup, rows, causes, 0)
            soon(self, 5, explained_course, setup, rows, causes, 39)

    def answered_or_too_great(self, call, most, *args):
        try:
            soon(self, 10, lambda: call(*args, most=most))
        except TooGreat as error:
            self.assertEqual(error.most, most)

    def test_chains_of_twelve_links(self):
        setup = (((1, 100, 0, 0, 1, 1000),), (1, 100), ((0, None),))
        rows = tuple((0, 3 * at, 0, 0, at, 3 * at, ((0, at),)) for at in range(40))
        causes = [((0, 0, 99), (0, 0, 99), least, least + 40) for least in (0, 20, 40)]
        for numbers in itertools.islice(itertools.product(range(3), repeat=12), 0, 10 ** 6, 99991):
            chain = [(number, 3 * at, 3 * at + 3) for at, number in enumerate(numbers)]
            told = soon(self, 5, chain_course, setup, rows, causes, chain)
            edges = [edge for number, i, j in chain for edge in ((2 * i, 2 * j, causes[number][3]), (2 * j, 2 * i, -causes[number][2]))]
            self.assertIs(told is not None, table_of(setup, rows, edges) is not None)


if __name__ == "__main__":
    unittest.main()
