"""Points [60] to [63]: what several recorders heard of one flight, beside all bounds between any two times."""

import itertools
import unittest

from plain import ODD, all_tuples, caught, chance, farthest, keeps, sendings, soon, some_setup, with_part
from plain_courses import bent_rows, fits, own_holds, stretch_of, ties
from wrecktold.courses import quarrel, stretch
from wrecktold.differences import check_system
from wrecktold.errors import BadRows, BadSetup, NoHappening, Quarrel, Refused, TooGreat
from wrecktold.joined import frames_of, joint_course, joint_quarrel, joint_stretch, joint_system, left_out

JOINT = (((1, 2, 0, 0, 2, 9),), ((1, 1), (2, 2)), ((0, None),))
WRECKS = (((0, 0, 0, 0, 0, 0, ()), (0, 6, 0, 0, 2, 4, ())), ((0, 0, 0, 0, 0, 0, ()), (0, 2, 0, 0, 1, 2, ())))
BENT = (WRECKS[0], (WRECKS[1][0], (0, 3, 0, 0, 1, 2, ())))


def with_most(call):
    """A search as a function of the arguments ahead of its `most`."""
    return lambda *args: call(*args, most=2000)


CALLS = [(frames_of, ()), (joint_system, ()), (joint_quarrel, ()), (joint_course, ()), (joint_stretch, (None, None)), (with_most(left_out), ())]


def some_joint(dice):
    setup = some_setup(dice)
    recorders = tuple((low, low + dice.randint(0, 2)) for low in [dice.choice((1, 1, 2)) for _ in range(dice.randint(1, 3))])
    return setup[0], recorders, setup[2]


def hearings(dice, clock, heard):
    """The rows of a recorder: (time, frame) that it heard; the times are told by stamps of its clock."""
    rows, last = [], None
    rboot, rstamp = dice.randint(0, 2), dice.randint(0, 50)
    for time, frame in heard:
        if last is not None:
            stamps = [many for many in range(time - last + 1) if clock[0] * many <= time - last <= clock[1] * many]
            if not stamps or (time > last and dice.random() < 0.1):
                rboot, rstamp = rboot + 1, dice.randint(0, 50)
            else:
                rstamp += dice.choice(stamps)
        rows.append((rboot, rstamp, *frame))
        last = time
    return tuple(rows)


def joint_flight(dice, joint, many=4):
    """(wrecks, when frames were sent): what each recorder heard of one flight, some frames being lost to it."""
    setup = (joint[0], joint[1][0], joint[2])
    frames = []
    for source, (_, _, least, most, _, _) in enumerate(joint[0]):
        for _, sent, *frame in sendings(dice, setup, source, dice.randint(0, many)):
            frames.append((sent, least, most, (source, *frame)))
    wrecks = []
    for clock in joint[1]:
        heard = [(sent + dice.randint(least, most), frame) for sent, least, most, frame in frames if dice.random() < 0.7]
        wrecks.append(hearings(dice, clock, sorted(heard)))
    return tuple(wrecks), {frame[:2] + (frame[3],): sent for sent, _, _, frame in frames}


class Own:
    """The frames and all bounds of any two times, as the test reckons them."""

    def __init__(self, joint, wrecks):
        self.joint, self.wrecks = joint, wrecks
        self.places = [(recorder, place) for recorder, rows in enumerate(wrecks) for place in range(len(rows))]
        self.names = sorted({self.name(told) for told in self.places})
        self.first = {name: min(told for told in self.places if self.name(told) == name) for name in self.names}
        self.frames = tuple(self.row(self.first[name]) for name in self.names)
        self.numbers = {told: self.names.index(self.name(told)) for told in self.places}
        self.heard = {told: len(self.names) + at for at, told in enumerate(self.places)}
        self.edges = self.all_edges()
        self.many = len(self.names) + len(self.places)
        self.table = farthest((self.many, self.edges))

    def row(self, told):
        return self.wrecks[told[0]][told[1]]

    def name(self, told):
        row = self.row(told)
        return row[2], row[3], row[5]

    def all_edges(self):
        told = []
        setup = (self.joint[0], (1, 1), self.joint[2])
        for words, x, y, least, greatest in ties(setup, self.frames):
            if words[0] in ("clock", "boot", "rate"):
                told.append((x // 2, y // 2, least, greatest))
        for recorder, rows in enumerate(self.wrecks):
            for words, x, y, least, greatest in ties((self.joint[0], self.joint[1][recorder], self.joint[2]), rows):
                if words[0] == "way":
                    place = recorder, words[1]
                    told.append((self.numbers[place], self.heard[place], least, greatest))
                if words[0] in ("recorder", "start"):
                    told.append((self.heard[recorder, words[1]], self.heard[recorder, words[2]], least, greatest))
        edges = [(y, x, -least) for x, y, least, _ in told]
        return tuple(edges + [(x, y, greatest) for x, y, _, greatest in told if greatest is not None])

    def paper(self):
        """The paper that is due, of a ring its word alone; `None` if there is none."""
        for told in self.places:
            first = self.first[self.name(told)]
            if self.row(told)[4] != self.row(first)[4] or self.row(told)[6] != self.row(first)[6]:
                return "frames", first, told
        for at, (one, other) in enumerate(zip(self.frames, self.frames[1:])):
            if one[2:4] == other[2:4] and not fits(self.joint[0][one[2]], one, other):
                return "numbers", at, at + 1
        return ("ring",) if self.table is None else None

    def number(self, happening):
        return self.numbers[happening[1:]] if happening[0] == "sent" else self.heard[happening[1:]]


def without(wrecks, lot):
    return tuple(tuple(row for place, row in enumerate(rows) if (recorder, place) not in lot) for recorder, rows in enumerate(wrecks))


def bent_wrecks(dice, joint, wrecks):
    """Wrecks of which some row was turned, or `None`."""
    full = [recorder for recorder, rows in enumerate(wrecks) if rows]
    if not full:
        return None
    recorder = dice.choice(full)
    bent = bent_rows(dice, (joint[0], joint[1][recorder], joint[2]), wrecks[recorder])
    return None if bent is None else with_tuple(wrecks, recorder, bent)


def with_tuple(value, at, part):
    return tuple(with_part(value, at, part))


class Frames(unittest.TestCase):
    def test_the_examples(self):
        self.assertEqual([row[2:6] for row in frames_of(JOINT, WRECKS)[0]], [(0, 0, 0, 0), (0, 0, 1, 2), (0, 0, 2, 4)])
        self.assertEqual(frames_of(joint=JOINT, wrecks=WRECKS)[1], {(0, 0): 0, (0, 1): 2, (1, 0): 0, (1, 1): 1})
        self.assertIsNone(joint_quarrel(joint=JOINT, wrecks=WRECKS))
        self.assertEqual(joint_stretch(JOINT, WRECKS, ("sent", 1, 1), ("heard", 0, 1)), (2, 2))
        self.assertEqual(joint_stretch(joint=JOINT, wrecks=WRECKS, one=["sent", 0, 0], other=("sent", 1, 0)), (0, 0))
        self.assertEqual(joint_quarrel(JOINT, BENT)[0], "ring")
        self.assertEqual(left_out(joint=JOINT, wrecks=BENT, most=9), ((1, 0),))
        self.assertEqual(joint_course(joint=JOINT, wrecks=WRECKS)[0][0][0], joint_course(JOINT, WRECKS)[1][0][0])

    def test_one_frame_that_some_heard_is_one(self):
        shared = 0
        for seed in range(150):
            dice = chance(seed)
            joint = some_joint(dice)
            wrecks, _ = joint_flight(dice, joint)
            own = Own(joint, wrecks)
            rows, numbers = frames_of([list(part) for part in joint], [list(rows) for rows in wrecks])
            self.assertEqual((rows, numbers), (own.frames, own.numbers))
            self.assertTrue(all_tuples(rows) and isinstance(numbers, dict))
            shared += len(numbers) > len(rows)
        self.assertGreater(shared, 30)

    def test_what_is_handed_out_is_not_kept(self):
        frames_of(JOINT, WRECKS)[1].clear()
        self.assertEqual(len(frames_of(JOINT, WRECKS)[1]), 4)


class Systems(unittest.TestCase):
    def look_at_ring(self, joint, wrecks, paper):
        """Looks at a ring: edges of the system, one behind another, whose sum is below 0."""
        self.assertEqual((paper[0], len(paper)), ("ring", 2))
        self.assertTrue(all_tuples(paper) and paper[1])
        edges = joint_system(joint, wrecks)[1]
        self.assertTrue(all(edge in edges for edge in paper[1]))
        self.assertTrue(all(one[1] == other[0] for one, other in zip(paper[1], paper[1][1:] + paper[1][:1])))
        self.assertLess(sum(edge[2] for edge in paper[1]), 0)

    def test_it_has_just_those_answers(self):
        for seed in range(200):
            dice = chance(seed)
            joint = some_joint(dice)
            wrecks, _ = joint_flight(dice, joint)
            if seed % 2:
                wrecks = bent_wrecks(dice, joint, wrecks) or wrecks
            own = Own(joint, wrecks)
            many, edges = joint_system(joint=joint, wrecks=wrecks)
            self.assertEqual(many, own.many)
            self.assertTrue(all_tuples(edges))
            self.assertEqual(farthest((many, edges)), own.table)
            if many:
                self.assertEqual(check_system((many, edges)), (many, edges))

    def test_what_truly_was_and_what_is_turned(self):
        seen = {}
        for seed in range(900):
            dice = chance(seed)
            joint = some_joint(dice)
            wrecks, _ = joint_flight(dice, joint)
            self.assertIsNone(joint_quarrel(joint, wrecks))
            bent = bent_wrecks(dice, joint, wrecks)
            if bent is None:
                continue
            own = Own(joint, bent).paper()
            paper = joint_quarrel(joint, bent)
            seen[own and own[0]] = True
            if own != ("ring",):
                self.assertEqual(paper, own)
            else:
                self.look_at_ring(joint, bent, paper)
            if paper is not None:
                self.assertEqual(caught(Quarrel, joint_course, joint, bent).paper, paper)
                self.assertEqual(caught(Quarrel, joint_stretch, joint, bent, None, None).paper, paper)
        self.assertEqual(sorted(map(str, seen)), ["None", "frames", "numbers", "ring"])

    def test_the_first_of_what_is_told(self):
        joint = (((1, 1, 0, 0, 2, 9), (1, 1, 0, 0, 2, 9)), ((1, 1), (1, 1), (1, 1)), ((0, None), (1, None)))
        wrecks = [
            [(0, 0, 0, 0, 0, 0, ((0, 7),)), (0, 9, 1, 0, 3, 9, ((1, 5),))],
            [(0, 0, 0, 0, 0, 0, [(0, 7)]), (0, 9, 1, 0, 3, 9, ((1, 4),))],
            [(0, 5, 0, 0, 1, 0, ((0, 7),)), (0, 7, 0, 0, 9, 9, ()), (0, 8, 1, 0, 3, 9, ())],
        ]
        self.assertEqual(joint_quarrel(joint, wrecks), ("frames", (0, 1), (1, 1)))
        wrecks[1][1] = wrecks[0][1]
        self.assertEqual(joint_quarrel(joint, wrecks), ("frames", (0, 0), (2, 0)))
        wrecks[2][0] = (0, 5, *wrecks[0][0][2:])
        self.assertEqual(joint_quarrel(joint, wrecks), ("frames", (0, 1), (2, 2)))
        wrecks[0][1] = wrecks[1][1] = (0, 9, *wrecks[2][2][2:])
        self.assertEqual(joint_quarrel(joint, wrecks), ("numbers", 0, 1))
        wrecks[2][1] = (0, 7, 0, 0, 1, 9, ())
        paper = joint_quarrel(joint, wrecks)
        self.look_at_ring(joint, wrecks, paper)
        wrecks[2][0] = (0, 0, *wrecks[0][0][2:])
        wrecks[2][1:] = [wrecks[1][1], (0, 9, 0, 0, 1, 9, ())]
        self.assertIsNone(joint_quarrel(joint, wrecks))

    def test_a_recorder_without_rows_and_no_rows_at_all(self):
        self.assertEqual(joint_system(JOINT, ((), ())), (0, ()))
        self.assertEqual(frames_of(JOINT, [[], []]), ((), {}))
        self.assertIsNone(joint_quarrel(JOINT, [(), ()]))
        self.assertEqual(joint_course(JOINT, ((), [])), ((), ()))
        self.assertEqual(left_out(JOINT, ((), ()), most=1), ())
        self.assertEqual(caught(NoHappening, joint_stretch, JOINT, ((), ()), ("sent", 0, 0), None).value, ("sent", 0, 0))
        told = WRECKS[0], ()
        self.assertEqual(joint_system(JOINT, told)[0], 4)
        self.assertEqual(joint_stretch(JOINT, told, ("sent", 0, 0), ("heard", 0, 1)), (6, 6))
        self.assertEqual((len(joint_course(JOINT, told)[0]), joint_course(JOINT, told)[1]), (2, ()))
        self.assertEqual(frames_of(JOINT, ((), WRECKS[1]))[1], {(1, 0): 0, (1, 1): 1})


class Times(unittest.TestCase):
    def test_a_course_and_stretches(self):
        ends = {}
        for seed in range(150):
            dice = chance(seed)
            joint = some_joint(dice)
            wrecks, _ = joint_flight(dice, joint)
            own = Own(joint, wrecks)
            told = joint_course(joint, wrecks)
            self.assertTrue(all_tuples(told))
            self.assertEqual([len(pairs) for pairs in told], [len(rows) for rows in wrecks])
            times = {own.numbers[recorder, place]: told[recorder][place][0] for recorder, place in own.places}
            times.update({own.heard[recorder, place]: told[recorder][place][1] for recorder, place in own.places})
            self.assertTrue(all(told[recorder][place][0] == times[own.numbers[recorder, place]] for recorder, place in own.places))
            self.assertTrue(keeps(own.edges, times))
            for recorder, rows in enumerate(wrecks):
                self.assertTrue(own_holds((joint[0], joint[1][recorder], joint[2]), rows, told[recorder]))
            for turn in range(10 if own.places else 0):
                one, other = [(dice.choice(("sent", "heard")), *dice.choice(own.places)) for _ in range(2)]
                stretch_told = joint_stretch(joint, wrecks, list(one), other)
                self.assertEqual(stretch_told, stretch_of(own.table, own.number(one), own.number(other)))
                ends[stretch_told[0] is None, stretch_told[1] is None] = True
        self.assertGreater(len(ends), 2)

    def test_with_one_recorder_as_by_the_rows_alone(self):
        for seed in range(200):
            dice = chance(seed)
            joint = some_joint(dice)
            joint = (joint[0], joint[1][:1], joint[2])
            wrecks, _ = joint_flight(dice, joint)
            setup, rows = (joint[0], joint[1][0], joint[2]), wrecks[0]
            for turn in range(8 if rows else 0):
                one, other = [(dice.choice(("sent", "heard")), dice.randrange(len(rows))) for _ in range(2)]
                told = joint_stretch(joint, wrecks, (one[0], 0, one[1]), (other[0], 0, other[1]))
                self.assertEqual(told, stretch(setup, rows, one, other))
            bent = bent_wrecks(dice, joint, wrecks)
            if bent is not None:
                one, other = quarrel(setup, bent[0]), joint_quarrel(joint, bent)
                self.assertEqual(one and one[0], other and other[0])

    def test_further_recorders_and_rows_never_widen(self):
        narrower = 0
        for seed in range(120):
            dice = chance(seed)
            joint = some_joint(dice)
            wrecks, _ = joint_flight(dice, joint)
            own = Own(joint, wrecks)
            for turn in range(6 if own.places else 0):
                one, other = [(dice.choice(("sent", "heard")), *dice.choice(own.places)) for _ in range(2)]
                least, greatest = joint_stretch(joint, wrecks, one, other)
                keep = {one[1:], other[1:]}
                lot = [told for told in own.places if told not in keep and dice.random() < 0.5]
                places = [[place for place in range(len(rows)) if (recorder, place) not in lot] for recorder, rows in enumerate(wrecks)]
                few = [(word, recorder, places[recorder].index(place)) for word, recorder, place in (one, other)]
                was = joint_stretch(joint, without(wrecks, lot), *few)
                self.assertTrue(was[0] is None or (least is not None and least >= was[0]))
                self.assertTrue(was[1] is None or (greatest is not None and greatest <= was[1]))
                narrower += was != (least, greatest)
        self.assertGreater(narrower, 20)


class LeftOut(unittest.TestCase):
    def own_search(self, joint, wrecks):
        """(the first of the fewest lots, how many lots are up to it)."""
        places = Own(joint, wrecks).places
        lots = [lot for size in range(len(places) + 1) for lot in itertools.combinations(places, size)]
        for at, lot in enumerate(lots):
            if Own(joint, without(wrecks, lot)).paper() is None:
                return lot, at + 1

    def test_the_first_of_the_fewest(self):
        sizes = {}
        for seed in range(260):
            dice = chance(seed)
            joint = some_joint(dice)
            wrecks, _ = joint_flight(dice, joint, 2)
            bent = wrecks
            for turn in range(2):
                bent = bent_wrecks(dice, joint, bent) or bent
            if sum(map(len, bent)) > 8:
                continue
            lot, many = self.own_search(joint, bent)
            if len(lot) > 3:
                continue
            for most in (many, many + 1, 2000):
                told = left_out(joint, bent, most=most)
                self.assertEqual(told, lot)
                self.assertTrue(all_tuples(told))
            for most in {1, many // 2, many - 1} - {0}:
                if most < many:
                    self.assertEqual(caught(TooGreat, left_out, joint, bent, most=most).most, most)
            sizes[len(lot)] = True
        self.assertGreater(len(sizes), 2)

    def test_nothing_where_nothing_quarrels(self):
        self.assertEqual(left_out(JOINT, WRECKS, most=1), ())
        self.assertEqual(caught(TooGreat, left_out, JOINT, BENT, most=3).most, 3)
        self.assertEqual(left_out(JOINT, BENT, most=4), ((1, 0),))

    def test_ten_rows_and_lots_of_three_soon(self):
        joint = (((1, 1, 0, 0, 2, 9),), ((1, 1), (1, 1)), ((0, None),))
        good = [(0, 2 * at, 0, 0, at, 2 * at, ()) for at in range(5)]
        bad = [(0, 2 * at + 1 + at % 2, 0, 0, at, 2 * at, ((0, at),)) for at in range(5)]
        told = soon(self, 10, with_most(left_out), joint, (good, [*good[:2], *bad[2:]]))
        self.assertEqual(len(told), 3)
        self.assertEqual(told, self.own_search(joint, (tuple(good), tuple([*good[:2], *bad[2:]])))[0])


class Errors(unittest.TestCase):
    def test_what_is_no_joint_setup(self):
        bad_ones = [*ODD, JOINT[:2], JOINT + ((),)]
        bad_ones += [with_part(JOINT, 1, part) for part in [*ODD, [(1, 1)] * 5, (1, 1), [(1, 1), (0, 1)], [(1, 1), (2, 1)], [(1, 101)], [(1,)]]]
        bad_ones += [with_part(JOINT, 1, [(1, 1), part]) for part in ODD if part != (0, 0)]
        for bad in bad_ones:
            for call, more in CALLS:
                self.assertIs(caught(Refused, call, bad, None, *more).at, bad)
        for call, more in CALLS:
            self.assertEqual(caught(BadSetup, call, with_part(JOINT, 0, ()), None, *more).at, 0)
            self.assertEqual(caught(BadSetup, call, with_part(JOINT, 2, [(1, None)]), None, *more).at, 2)
            self.assertIs(caught(Refused, call, bad := (None, [(1, 2, 3)], None), None, *more).at, bad)

    def test_what_are_no_wrecks(self):
        for call, more in CALLS:
            for bad in [*ODD, WRECKS[:1], WRECKS + ((),)]:
                if not (isinstance(bad, (list, tuple)) and len(bad) == 2):
                    self.assertIs(caught(Refused, call, JOINT, bad, *more).at, bad)
            self.assertEqual(caught(BadRows, call, JOINT, (WRECKS[0], None), *more).at, -1)
            self.assertEqual(caught(BadRows, call, JOINT, (WRECKS[0][::-1], None), *more).at, 1)
            self.assertEqual(caught(BadRows, call, JOINT, (WRECKS[0], WRECKS[1] * 2), *more).at, 2)

    def test_what_is_no_happening(self):
        bad_ones = [*ODD, ("sent", 0), ("sent", 0, 0, 0), ("sent", 2, 0), ("sent", 0, 2), ("sent", -1, 0), ("heard", 0, -1), ("sent", True, 0)]
        bad_ones += [("sent", 0, False), ("Sent", 0, 0), (0, 0, 0), ("sent", None, 0), ("sent", 0, "0"), (("sent",), 0, 0)]
        for bad in bad_ones:
            self.assertIs(caught(NoHappening, joint_stretch, JOINT, WRECKS, bad, None).value, bad)
            self.assertIs(caught(NoHappening, joint_stretch, JOINT, WRECKS, ("heard", 1, 1), bad).value, bad)

    def test_thirty_rows_soon(self):
        joint = (((1, 9, 0, 0, 1, 99),) * 4, ((1, 9),) * 4, ((0, None),))
        wrecks = [[(0, at, at % 4, 0, at // 4, 2 * (at // 4), ()) for at in range(many)] for many in (8, 8, 7, 7)]
        self.assertIsNone(soon(self, 5, joint_quarrel, joint, wrecks))
        own = Own(joint, [tuple(rows) for rows in wrecks])
        told = soon(self, 5, joint_stretch, joint, wrecks, ("sent", 0, 0), ("heard", 3, 6))
        self.assertEqual(told, stretch_of(own.table, own.number(("sent", 0, 0)), own.number(("heard", 3, 6))))


if __name__ == "__main__":
    unittest.main()
