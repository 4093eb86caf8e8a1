"""Points [69], [70], [71]: flights that are led along and cut, beside a book of the test's own."""

import copy
import unittest

from plain import ODD, all_tuples, caught, chance, sendings, soon, some_setup, with_part
from plain_courses import own_holds, stretch_of, table_of
from test_blocks import NO_SHAPE
from test_order import own_word
from test_packing import own_form
from test_recorder import Flight, own_part
from wrecktold.errors import BadFrame, BadSetup, Refused
from wrecktold.meaning import meaning, wreck_order, wreck_rows, wreck_stretch
from wrecktold.packing import most_length
from wrecktold.world import World

SETUP = (((2, 3, 0, 1, 1, 9), (1, 2, 0, 0, 2, 9)), (1, 1), ((0, 5), (1, None)))
SHAPE = (3, 2, 6, 2, 40)
FRAME = (0, 0, 7, 1, ((0, 10),))
NO_STEPS = [bad for bad in ODD if bad is not None and bad.__class__ is not int] + [-1, -(10 ** 40), "1", (1,), True, False, 1.0]


class Book(Flight):
    """A world, and a book of what was laid; `heard` tells by block the row and when it was sent and heard."""

    def __init__(self, case, setup, shape):
        self.case, self.setup, self.shape = case, setup, shape
        self.lead_world(World(setup, shape))
        self.book, self.heard = {}, {}
        self.number, self.asks, self.rboot = 0, {}, 0
        self.longest = most_length(setup)
        self.clock = None
        self.again()

    def lead_world(self, world):
        self.world, self.chips = world, world.chips

    @property
    def recorder(self):
        return self.world.recorder

    def again(self):
        """The ring is that of what lies there: the recorder was started anew."""
        self.row = [own_part(self.shape[1], self.chips.memory(), slot) for slot in range(self.shape[2])]
        self.given = max(self.asks, default=-1) + 1

    def twin(self):
        other = Book(self.case, self.setup, self.shape)
        other.lead_world(copy.deepcopy(self.world))
        for name in ("book", "heard", "number", "asks", "rboot", "clock", "row", "given"):
            setattr(other, name, copy.deepcopy(getattr(self, name)))
        return other

    def own_ask(self, ahead, behind):
        asks = Flight.own_ask(self, ahead, behind)
        return None if asks is None or self.room(asks) < self.longest else asks

    def act(self, deed, call, steps, heard=None):
        """Does a deed, perhaps cut, and looks at what is told."""
        plan = self.plan(deed)
        if plan is None:
            was = self.state()
            self.case.assertIsNone(call())
            self.case.assertEqual(self.state(), was)
        else:
            asks, data, slot, told = plan
            lines = self.lines(asks, data)
            due = self.lacking(self.number, slot, lines)
            left = [chip for chip in range(self.shape[0]) if not self.chips.is_lost(chip)]
            is_cut = steps is not None and steps < len(due)
            self.case.assertEqual(call(), None if is_cut else told)
            if not is_cut or len(left) - len(due) + steps >= self.shape[1]:
                self.case.assertEqual(self.lacking(self.number, slot, lines), [])
                if heard is not None:
                    self.heard[self.number] = heard
                self.took(asks, data, slot)
            else:
                self.book.pop(self.number, None)
            if is_cut:
                self.rboot += 1
                self.clock = None
                self.again()
        self.look_whole()

    def hear(self, frame, times, rstamp, steps=None):
        row = (self.rboot, rstamp, *frame)
        self.clock = times[1], rstamp
        self.act(("hear", own_form(self.setup, row)), lambda: self.world.hear(rstamp, frame, steps), steps, (row, times))

    def ask(self, ahead, behind, steps=None):
        self.act(("ask", ahead, behind), lambda: self.world.ask(ahead, behind, steps), steps)

    def release(self, name, steps=None):
        self.act(("release", name), lambda: self.world.release(name, steps), steps)

    def restart(self, cuts=()):
        self.rboot += len(cuts) + 1
        self.clock = None
        self.case.assertEqual(self.world.restart(cuts), self.rboot)
        self.again()
        self.look_whole()

    def lose_one(self, dice):
        left = [chip for chip in range(self.shape[0]) if not self.chips.is_lost(chip)]
        chip = dice.choice(left)
        if len(left) > self.shape[1]:
            self.case.assertIsNone(self.world.lose(chip))
            self.case.assertTrue(self.chips.is_lost(chip))
        else:
            self.case.assertEqual(caught(Refused, self.world.lose, chip).at, chip)
        self.look_whole()

    def look_whole(self):
        """Looks whether the world is as the book tells, and the wreck tells what truly was."""
        case, world = self.case, self.world
        case.assertEqual((world.setup, world.shape, world.rboot, world.chips.steps), (self.setup, self.shape, self.rboot, None))
        self.look()
        memory = world.wreck()
        case.assertEqual(memory, self.chips.memory())
        told = wreck_rows(self.setup, self.shape, memory)
        case.assertEqual(told, tuple((number, self.heard[number][0]) for number, _ in told))
        numbers = tuple(number for number, _ in told)
        case.assertLessEqual({number for number in self.kept() if self.book[number][1]}, set(numbers))
        rows = tuple(row for _, row in told)
        case.assertEqual(world.told(), ("told", numbers, rows, self.told_asks(self.asks)))
        case.assertTrue(own_holds(self.setup, rows, [self.heard[number][1] for number in numbers]))


def true_frames(dice, setup, many):
    """(heard, sent, frame) of a flight, as the frames are heard."""
    told = []
    for source in range(len(setup[0])):
        for heard, sent, *frame in sendings(dice, setup, source, dice.randint(1, many)):
            told.append((heard, sent, (source, *frame)))
    return sorted(told)


def next_stamp(dice, book, time):
    """The stamp of the recorder's clock at a time; `None` if it cannot hear at it."""
    last = max([times[1] for _, times in book.heard.values()], default=None)
    if book.clock is None:
        stamp = dice.randint(0, 50)
        return None if last is not None and time <= last else stamp
    was, at = book.clock
    high = book.setup[1][1]
    return at + dice.randint(-(-(time - was) // high), time - was)


def some_world(dice, case):
    """A book of a world by chance: its frames, and an empty flight."""
    while True:
        setup = some_setup(dice)
        chips = dice.randint(2, 5)
        need, slots = dice.randint(1, chips - 1), dice.randint(3, 8)
        cells = -(-(most_length(setup) + 2 + dice.choice((0, 4, 20, 40))) // need)
        if cells <= 60:
            return Book(case, setup, (chips, need, slots, dice.randint(1, max(1, slots // 2)), cells))


def some_steps(dice, book, part):
    return dice.randint(0, book.shape[0] + 1) if dice.random() < part else None


def go_on(dice, book, frames, part):
    """One deed more: mostly a frame is heard."""
    if dice.random() < 0.35 and book.number:
        word = dice.choice(("ask", "release", "restart", "lose"))
        if word == "ask":
            book.ask(dice.randint(0, 3), dice.randint(0, 2), some_steps(dice, book, part))
        if word == "release" and book.asks:
            book.release(dice.choice(sorted(book.asks)), some_steps(dice, book, part))
        if word == "restart":
            book.restart([dice.choice((0, 1, 2, None)) for _ in range(dice.choice((0, 0, 1, 4)))])
        if word == "lose":
            book.lose_one(dice)
        return
    while frames:
        heard, sent, frame = frames.pop(0)
        stamp = next_stamp(dice, book, heard)
        if stamp is not None and dice.random() < 0.8:
            book.hear(frame, (sent, heard), stamp, some_steps(dice, book, part))
            return


class Flights(unittest.TestCase):
    def test_led_along_beside_a_book(self):
        laid = asked = 0
        for seed in range(120):
            dice = chance(seed)
            book = some_world(dice, self)
            frames = true_frames(dice, book.setup, 7)
            for step in range(18):
                go_on(dice, book, frames, 0.3)
                asked = max(asked, len(book.asks))
            laid += len(book.heard)
        self.assertGreater(laid, 400)
        self.assertGreater(asked, 1)

    def test_each_cut_behind_any_number_of_steps(self):
        there = {}
        for seed in range(25):
            dice = chance(seed)
            book = some_world(dice, self)
            frames = true_frames(dice, book.setup, 4)
            for step in range(7):
                ahead, behind, name = dice.randint(0, 3), dice.randint(0, 2), dice.choice(sorted(book.asks) or [None])
                frame = frames[0] if frames else None
                for steps in range(book.shape[0] + 1):
                    stamp = next_stamp(dice, book, frame[0]) if frame else None
                    twins = [book.twin() for turn in range(3)]
                    twins[0].ask(ahead, behind, steps)
                    if name is not None:
                        twins[1].release(name, steps)
                    if stamp is not None:
                        twins[2].hear(frame[2], (frame[1], frame[0]), stamp, steps)
                        there[twins[2].rboot > book.rboot, twins[2].number > book.number] = True
                    for other in twins:
                        later = frames[1:]
                        for turn in range(2):
                            go_on(dice, other, later, 0.5)
                go_on(dice, book, frames, 0)
        self.assertEqual(len(there), 3)

    def test_what_is_told_is_what_all_courses_have_in_common(self):
        words = {}
        for seed in range(80):
            dice = chance(seed)
            book = some_world(dice, self)
            frames = true_frames(dice, book.setup, 5)
            for step in range(12):
                go_on(dice, book, frames, 0.2)
            memory = book.world.wreck()
            numbers = [number for number, _ in wreck_rows(book.setup, book.shape, memory)]
            table = table_of(book.setup, [book.heard[number][0] for number in numbers]) if numbers else []
            for x in range(len(table)):
                for y in range(len(table)):
                    one, other = [(("sent", "heard")[time % 2], numbers[time // 2]) for time in (x, y)]
                    told = wreck_stretch(book.setup, book.shape, memory, one, other) if dice.random() < 0.2 else None
                    if told is not None:
                        self.assertEqual(told, stretch_of(table, x, y))
                        word = wreck_order(book.setup, book.shape, memory, one, other)
                        self.assertEqual(word, own_word(told))
                        times = [book.heard[number][1][word == "heard"] for word, number in (one, other)]
                        truly = times[1] - times[0]
                        self.assertIn(word, ("open", "ahead" if truly > 0 else "behind" if truly < 0 else "at once"))
                        words[word] = True
        self.assertEqual(len(words), 4)

    def test_of_less_of_the_wreck_less_is_told(self):
        fewer = 0
        for seed in range(80):
            dice = chance(seed)
            book = some_world(dice, self)
            frames = true_frames(dice, book.setup, 5)
            for step in range(12):
                go_on(dice, book, frames, 0.2)
            memory = book.world.wreck()
            _, numbers, rows, _ = meaning(book.setup, book.shape, memory)
            for turn in range(4):
                less = [row if row is None or dice.random() < 0.4 else None for row in memory]
                if turn % 2:
                    less = [row and [part if dice.random() < 0.8 else dice.choice((None, "torn")) for part in row] for row in memory]
                word, few, left, asks = meaning(book.setup, book.shape, less)
                self.assertEqual((word, left), ("told", tuple(rows[numbers.index(number)] for number in few)))
                self.assertLessEqual(set(few), set(numbers))
                self.assertIn(asks, {book.book[number][0] for number in book.book} | {()})
                fewer += few != numbers
                for again in range(3 if few else 0):
                    one, other = [(dice.choice(("sent", "heard")), dice.choice(few)) for _ in range(2)]
                    was, now = [wreck_stretch(book.setup, book.shape, lot, one, other) for lot in (memory, less)]
                    self.assertTrue(now[0] is None or (was[0] is not None and now[0] <= was[0]))
                    self.assertTrue(now[1] is None or (was[1] is not None and now[1] >= was[1]))
                    words = [wreck_order(book.setup, book.shape, lot, one, other) for lot in (memory, less)]
                    self.assertIn(words[1], (words[0], "open"))
        self.assertGreater(fewer, 60)


class Examples(unittest.TestCase):
    def test_attributes(self):
        world = World(setup=[list(part) for part in SETUP], shape=list(SHAPE))
        self.assertEqual((world.setup, world.shape, world.rboot), (SETUP, SHAPE, 0))
        self.assertTrue(all_tuples((world.setup, world.shape)))
        self.assertEqual((world.chips.many, world.chips.slots, world.chips.steps), (3, 6, None))
        self.assertEqual(world.recorder.ring.row, (None,) * 6)
        self.assertEqual((world.wreck(), world.told()), (((None,) * 6,) * 3, ("told", (), (), ())))

    def test_by_names_and_as_lists(self):
        world = World(SETUP, SHAPE)
        self.assertEqual(world.hear(rstamp=4, frame=[0, 0, 7, 1, [[0, 10]]]), 0)
        self.assertIsNone(world.hear(rstamp=6, frame=(1, 0, 0, 3, ()), steps=0))
        self.assertEqual(world.ask(ahead=1, behind=0), (0, 0, 0))
        self.assertIsNone(world.ask(ahead=1, behind=0, steps=0))
        self.assertIsNone(world.release(name=0, steps=1))
        self.assertEqual((world.rboot, world.restart(cuts=[0, 3]), world.restart(), world.rboot), (3, 6, 7, 7))
        self.assertEqual(world.release(name=0), 2)
        self.assertIsNone(world.lose(chip=1))
        self.assertEqual(world.told(), ("told", (0,), ((0, 4, 0, 0, 7, 1, ((0, 10),)),), ()))

    def test_steps_that_are_enough_cut_nothing(self):
        for steps in (3, 4, 10 ** 6):
            world = World(SETUP, SHAPE)
            self.assertEqual((world.hear(4, FRAME, steps), world.rboot, world.chips.steps), (0, 0, None))
            self.assertEqual((world.ask(1, 0, steps), world.rboot), ((0, 0, 0), 0))
            self.assertEqual((world.release(0, steps), world.rboot), (2, 0))
        for steps, numbers in [(0, ()), (1, ()), (2, (0,))]:
            world = World(SETUP, SHAPE)
            self.assertEqual((world.hear(4, FRAME, steps), world.rboot, world.told()[1]), (None, 1, numbers))
            self.assertEqual(world.chips.steps, None)

    def test_asks_beside_which_some_row_fits_no_more(self):
        setup = (SETUP[0], SETUP[1], ((0, 5), (0, 5), (1, None)))
        longest = 10 + 1 + 6
        self.assertEqual(most_length(setup), longest)
        for cells in (longest + 2, longest + 9, longest + 10):
            world = World(setup, (2, 1, 6, 2, cells))
            # An ask of small numbers has a form of 10 octets: 2 of its sequence, 2 or 3 of each number.
            world.hear(0, FRAME)
            room = cells - 2 - len(own_ask_form((0, 0, 0)))
            self.assertEqual(world.ask(1, 0), (0, 0, 0) if room >= longest else None)
            self.assertEqual(world.told()[3], ((0, 0, 0),) if room >= longest else ())
        self.assertEqual(caught(Refused, World, setup, (2, 1, 6, 2, longest + 1)).at, (2, 1, 6, 2, longest + 1))
        self.assertEqual(caught(Refused, World, setup, [3, 2, 6, 2, 9]).at, [3, 2, 6, 2, 9])
        self.assertEqual(World(setup, [3, 2, 6, 2, 10]).shape, (3, 2, 6, 2, 10))

    def test_an_ask_of_no_block(self):
        world = World(SETUP, SHAPE)
        self.assertIsNone(world.ask(0, 0))
        self.assertIsNone(world.ask(5, 0))
        self.assertEqual(world.recorder.ring.number, 0)
        self.assertEqual(world.ask(0, 1), (0, 0, 0))

    def test_rows_that_were_not_heard_so_quarrel(self):
        world = World(SETUP, SHAPE)
        world.hear(4, FRAME)
        self.assertEqual(world.hear(3, (1, 0, 0, 3, ())), 1)
        self.assertEqual(world.told(), ("quarrel", ("rows", 1)))
        world = World(SETUP, SHAPE)
        world.hear(4, FRAME)
        world.hear(9, (0, 0, 9, 2, ()))
        self.assertEqual(world.told(), ("quarrel", ("numbers", 0, 1)))


def own_ask_form(ask):
    """The octets of one ask in the form of asks."""
    out = [4, 1, 3]
    for number in ask:
        out += [1, 0] if number == 0 else [1, 1, number]
    return out


class Errors(unittest.TestCase):
    def state(self, world):
        ring = world.recorder.ring
        return world.wreck(), world.rboot, world.chips.steps, ring.number, ring.row, ring.asks, ring.given, world.recorder

    def refused(self, world, kind, call, *args):
        """The error of a call that changes nothing."""
        was = self.state(world)
        error = caught(kind, call, *args)
        self.assertEqual(self.state(world), was)
        return error.at

    def world(self, boots=0):
        world = World(SETUP, SHAPE)
        world.hear(4, FRAME)
        world.ask(1, 0)
        for turn in range(boots):
            world.restart()
        return world

    def test_of_new_worlds(self):
        for bad in ODD:
            self.assertIn(caught(BadSetup, World, bad, None).at, (-1, 0))
        self.assertEqual(caught(BadSetup, World, with_part(SETUP, 1, ()), None).at, 1)
        for bad in [*NO_SHAPE, (3, 2, 6, 2, 3), (2, 1, 2, 1, 1), (2, 1, 2, 1, 2)]:
            self.assertIs(caught(Refused, World, SETUP, bad).at, bad)

    def test_of_frames(self):
        world = self.world()
        for bad in [*ODD, FRAME[:4], FRAME + (1,), "abcde"]:
            for stamp in (5, None):
                self.assertEqual(self.refused(world, BadFrame, world.hear, stamp, bad, "x"), -1)
        for bad in [*ODD, 10 ** 6 + 1]:
            self.assertEqual(self.refused(world, BadFrame, world.hear, bad, FRAME, "x"), 1)
        for at, part in [(0, 2), (1, 256), (2, None), (3, -1), (4, ((1, 5),))]:
            self.assertEqual(self.refused(world, BadFrame, world.hear, 5, with_part(FRAME, at, part), -1), at + 2)
            self.assertEqual(self.refused(world, BadFrame, world.hear, None, with_part(FRAME, at, part), -1), 1)

    def test_of_steps(self):
        world = self.world()
        for bad in NO_STEPS:
            for call, args in [(world.hear, (9, FRAME)), (world.ask, (0, 0)), (world.ask, (1, 1)), (world.release, (0,))]:
                self.assertIs(self.refused(world, Refused, call, *args, bad), bad)
            self.assertIs(self.refused(world, Refused, world.restart, [0, bad, -2]), bad)
        for bad in ODD:
            if not isinstance(bad, (list, tuple)):
                self.assertIs(self.refused(world, Refused, world.restart, bad), bad)

    def test_of_the_recorder_come_first(self):
        world = self.world()
        for bad in [*ODD, 1001, "0"]:
            self.assertIs(self.refused(world, Refused, world.ask, bad, -1, "x"), bad)
            self.assertIs(self.refused(world, Refused, world.ask, 0, bad, "x"), bad)
            self.assertIs(self.refused(world, Refused, world.release, bad, "x"), bad)
        self.assertEqual(self.refused(world, Refused, world.release, 1, None), 1)

    def test_of_chips(self):
        world = World(SETUP, (4, 2, 6, 2, 40))
        for bad in [*ODD, 4, "1", (1,)]:
            self.assertIs(self.refused(world, Refused, world.lose, bad), bad)
        world.lose(2)
        self.assertEqual(self.refused(world, Refused, world.lose, 2), 2)
        world.lose(0)
        for chip in range(4):
            self.assertEqual(self.refused(world, Refused, world.lose, chip), chip)
        self.assertEqual(world.hear(4, FRAME), 0)
        self.assertEqual([row is None for row in world.wreck()], [True, False, True, False])

    def test_the_last_start(self):
        world = self.world(250)
        self.assertEqual(self.refused(world, Refused, world.restart, [0] * 5), 256)
        self.assertEqual(self.refused(world, Refused, world.restart, [0] * 300), 551)
        self.assertEqual(self.refused(world, Refused, world.restart, [0] * 300 + [-1]), -1)
        self.assertEqual(world.restart([0] * 4), 255)
        self.assertEqual(self.refused(world, Refused, world.restart), 256)
        for call, args in [(world.hear, (9, FRAME)), (world.ask, (0, 0)), (world.ask, (1, 1)), (world.release, (0,))]:
            for steps in (0, 3, 10 ** 9):
                self.assertEqual(self.refused(world, Refused, call, *args, steps), 256)
            self.assertEqual(self.refused(world, Refused, call, *args, -1), -1)
        self.assertEqual(self.refused(world, BadFrame, world.hear, 9, None, 0), -1)
        self.assertEqual(self.refused(world, Refused, world.ask, 0, -1, 0), -1)
        self.assertEqual(self.refused(world, Refused, world.release, 5, 0), 5)
        self.assertEqual((world.ask(0, 0), world.hear(9, (0, 0, 8, 4, ())), world.release(0)), (None, 2, 3))
        self.assertEqual(world.told()[2][-1], (255, 9, 0, 0, 8, 4, ()))
        world = self.world(254)
        self.assertIsNone(world.hear(9, (0, 0, 8, 4, ()), 0))
        self.assertEqual(world.rboot, 255)
        world = self.world(254)
        self.assertEqual((world.hear(9, (0, 0, 8, 4, ()), 3), world.rboot, world.restart()), (2, 254, 255))

    def test_later_changes_of_what_was_passed(self):
        setup, shape, frame, cuts = [list(part) for part in SETUP], list(SHAPE), [0, 0, 7, 1, [[0, 10]]], [0]
        world = World(setup, shape)
        world.hear(4, frame)
        world.restart(cuts)
        setup[1], shape[0], frame[2], frame[4][0][1] = None, 9, 99, -5
        cuts.append(7)
        self.assertEqual((world.setup, world.shape), (SETUP, SHAPE))
        self.assertEqual(world.told()[2], ((0, 4, *FRAME),))

    def test_a_long_flight_soon(self):
        setup = (((1, 9, 0, 0, 1, 99),), (1, 9), ((0, None),) * 16)
        world = World(setup, (8, 5, 40, 9, 30))
        told = soon(self, 20, lambda: [world.hear(at, (0, 0, at, 2 * at, tuple((channel, at) for channel in range(16)))) for at in range(60)])
        self.assertEqual(told, list(range(60)))
        self.assertEqual(soon(self, 10, world.told)[1], tuple(range(20, 60)))


if __name__ == "__main__":
    unittest.main()
