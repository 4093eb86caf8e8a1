"""Points [72], [73], [74]: a desk that is led by lines, beside a world that is led by calls."""

import copy
import unittest

from plain import ODD, caught, chance, soon
from test_blocks import NO_SHAPE
from test_world import SETUP, SHAPE, some_world, true_frames
from wrecktold.desk import Desk
from wrecktold.errors import BadSetup, BadText, NoChannel, NoHappening, Quarrel, Refused, WreckError
from wrecktold.limits import limit_word
from wrecktold.meaning import wreck_order, wreck_stretch
from wrecktold.world import World

GOOD_LINES = [
    "hear 0 0 0 0 0", "hear 0 0 0 0 0 0:1 1:-1", "cut 0 hear 0 0 0 0 0", "cut 9 hear 0 0 0 0 0 5:0", "ask 0 0", "release 0", "lose 0",
    "restart", "restart 0", "restart 0 10 999999999", "told", "blocks", "asks", "time sent 0 heard 0", "order heard 1 sent 22", "limit 0 0",
    "limit 1 -999999999",
]


class Book:
    """A world of the test's own: what a desk says of each line."""

    def __init__(self, setup, shape):
        self.world = World(setup, shape)

    def say(self, line):
        word, *words = line.split()
        try:
            return getattr(self, f"say_{word}")(*words)
        except (WreckError, NoHappening, NoChannel):
            return "refused"

    def say_hear(self, rstamp, source, boot, number, stamp, *readings, steps=None):
        pairs = [tuple(map(int, reading.split(":"))) for reading in readings]
        told = self.world.hear(int(rstamp), (int(source), int(boot), int(number), int(stamp), pairs), steps)
        return "cut" if told is None else f"block {told}"

    def say_cut(self, steps, hear, *words):
        return self.say_hear(*words, steps=int(steps))

    def say_ask(self, ahead, behind):
        told = self.world.ask(int(ahead), int(behind))
        return "given {} {} {}".format(*told) if told else "no"

    def say_release(self, name):
        return f"block {self.world.release(int(name))}"

    def say_lose(self, chip):
        self.world.lose(int(chip))
        return "ok"

    def say_restart(self, *cuts):
        return f"boot {self.world.restart([int(steps) for steps in cuts])}"

    def say_told(self):
        told = self.world.told()
        return "told" if told[0] == "told" else "quarrel " + told[1][0]

    def meant(self):
        told = self.world.told()
        if told[0] != "told":
            raise Quarrel(None)
        return told

    def say_blocks(self):
        return " ".join(map(str, self.meant()[1])) or "-"

    def say_asks(self):
        return " ".join(":".join(map(str, ask)) for ask in self.meant()[3]) or "-"

    def happenings(self, words):
        self.meant()
        told = self.world
        return told.setup, told.shape, told.wreck(), (words[0], int(words[1])), (words[2], int(words[3]))

    def say_time(self, *words):
        return " ".join("-" if end is None else str(end) for end in wreck_stretch(*self.happenings(words)))

    def say_order(self, *words):
        return wreck_order(*self.happenings(words))

    def say_limit(self, channel, limit):
        return limit_word(self.world.setup, self.meant()[2], int(channel), int(limit))

    def state(self):
        ring = self.world.recorder.ring
        return self.world.wreck(), self.world.rboot, ring.number, ring.row, ring.asks, ring.given


def some_line(dice, book, frames):
    """A line by chance: mostly of a frame that was truly heard."""
    world = book.world
    numbers = [*range(max(0, world.recorder.ring.number - 6), world.recorder.ring.number + 1)]
    words = [part for _ in range(2) for part in (dice.choice(("sent", "heard")), dice.choice(numbers))]
    kind = dice.choice(("hear", "hear", "hear", "hear", "cut", "ask", "release", "lose", "restart", "asked", "asked", "asked", "wild"))
    if kind in ("hear", "cut") and frames:
        heard, _, (source, boot, number, stamp, readings) = frames.pop(0)
        told = " ".join(map(str, (heard + 20, source, boot, number, stamp))) + "".join(f" {one}:{other}" for one, other in readings)
        return f"hear {told}" if kind == "hear" else f"cut {dice.randint(0, 5)} hear {told}"
    if kind == "wild":
        return dice.choice(GOOD_LINES)
    lines = {
        "ask": f"ask {dice.randint(0, 3)} {dice.randint(0, 2)}", "release": f"release {dice.randint(0, 3)}", "lose": f"lose {dice.randint(0, 3)}",
        "restart": "restart" + " 1" * dice.choice((0, 0, 1, 3)),
    }
    asked = ["told", "blocks", "asks", "time {} {} {} {}".format(*words), "order {} {} {} {}".format(*words)]
    asked.append(f"limit {dice.randint(0, 4)} {dice.randint(-9, 30)}")
    return lines.get(kind, dice.choice(asked))


def is_asking(line):
    return line.split()[0] in ("told", "blocks", "asks", "time", "order", "limit")


class Desks(unittest.TestCase):
    def test_the_example(self):
        setup = (((1, 2, 0, 1, 3, 9),), (1, 1), ((0, 2), (0, None)))
        desk = Desk(setup=setup, shape=(3, 2, 6, 2, 40))
        lines = ("hear 0 0 0 0 10 0:5", "hear 4 0 0 1 13 0:6 1:-1", "ask 1 0", "lose 2", "hear 4 9 0 2 16")
        self.assertEqual([desk.say(line=line) for line in lines], ["block 0", "block 1", "given 0 1 1", "ok", "refused"])
        lines = ("told", "blocks", "asks", "time sent 0 sent 1", "order heard 1 sent 0", "limit 0 12")
        self.assertEqual([desk.say(line) for line in lines], ["told", "0 1", "0:1:1", "3 5", "behind", "kept"])
        self.assertIsInstance(desk.world, World)
        self.assertEqual((desk.world.setup, desk.world.rboot), (setup, 0))

    def test_led_by_lines_beside_a_book(self):
        said = {}
        for seed in range(120):
            dice = chance(seed)
            other = some_world(dice, self)
            desk, book = Desk(other.setup, other.shape), Book(other.setup, other.shape)
            frames = true_frames(dice, other.setup, 6)
            for step in range(25):
                line = some_line(dice, book, frames)
                was = book.state()
                told = book.say(line)
                self.assertEqual(desk.say(line), told)
                self.assertEqual(Book.state(desk), book.state())
                if told == "refused" or is_asking(line):
                    self.assertEqual(book.state(), was)
                said[line.split()[0], told.split()[0]] = True
        for pair in [
            ("hear", "block"), ("hear", "refused"), ("cut", "cut"), ("cut", "block"), ("ask", "given"), ("ask", "no"), ("release", "block"),
            ("release", "refused"), ("lose", "ok"), ("lose", "refused"), ("restart", "boot"), ("told", "told"), ("told", "quarrel"),
            ("blocks", "-"), ("asks", "-"), ("time", "refused"), ("limit", "refused"), ("limit", "kept"), ("order", "ahead"), ("blocks", "refused"),
        ]:
            self.assertIn(pair, said)

    def test_that_asking_changes_nothing(self):
        for seed in range(40):
            dice = chance(seed)
            other = some_world(dice, self)
            desk, silent = Desk(other.setup, other.shape), Desk(other.setup, other.shape)
            frames = true_frames(dice, other.setup, 6)
            asked = [line for line in GOOD_LINES if is_asking(line)]
            for step in range(20):
                line = some_line(dice, silent, frames)
                if is_asking(line):
                    continue
                for turn in range(2):
                    desk.say(dice.choice(asked))
                self.assertEqual(desk.say(line), silent.say(line))
            self.assertEqual([desk.say(line) for line in asked], [silent.say(line) for line in asked])

    def test_bounds_and_words(self):
        desk = Desk((((1, 2, 0, 1, 5, 9), (1, 2, 0, 1, 5, 9)), (1, 2), ((0, 2), (0, None), (1, 4))), (3, 2, 6, 2, 40))
        lines = ["hear 0 0 0 0 0", "restart", "hear 0 0 1 0 0 0:7 1:3", "hear 0 1 0 0 9", "hear 9 0 1 1 7 0:-3"]
        self.assertEqual([desk.say(line) for line in lines], ["block 0", "boot 1", "block 1", "block 2", "block 3"])
        told = [desk.say(line) for line in ("told", "blocks", "time sent 0 sent 1", "time sent 1 heard 0", "time heard 1 heard 2")]
        self.assertEqual(told, ["told", "0 1 2 3", "5 -", "- -4", "0 0"])
        words = [desk.say(f"order {words}") for words in ("sent 0 sent 1", "heard 1 heard 2", "sent 3 sent 3", "heard 3 sent 1", "sent 1 sent 2")]
        self.assertEqual(words, ["ahead", "at once", "at once", "behind", "open"])
        self.assertEqual([desk.say(f"limit 0 {limit}") for limit in (6, 7, 14, 15, -9)], ["passed", "open", "open", "kept", "passed"])
        self.assertEqual([desk.say(f"limit {channel} 5") for channel in (1, 2, 3)], ["refused", "kept", "refused"])

    def test_where_there_is_a_quarrel(self):
        for lines, word in [
            (["hear 9 0 0 0 1", "hear 4 0 0 1 2"], "rows"), (["hear 4 0 0 0 1", "hear 9 0 0 9 2"], "numbers"),
            (["hear 4 0 0 7 1", "hear 99 0 0 8 2"], "ring"),
        ]:
            desk = Desk(SETUP, SHAPE)
            self.assertEqual([desk.say(line) for line in lines], ["block 0", "block 1"])
            self.assertEqual(desk.say("told"), f"quarrel {word}")
            for line in ("blocks", "asks", "time sent 0 sent 0", "order sent 0 sent 1", "limit 0 1", "limit 9 1", "time sent 9 sent 0"):
                self.assertEqual(desk.say(line), "refused")
            for line in ("blocks 1", "limit 0", "time sent 0 sent", "order sent 0 1 sent"):
                self.assertEqual(caught(BadText, desk.say, line).at, 0)
            self.assertEqual(desk.say("ask 0 1"), "given 0 2 2")

    def test_cut(self):
        for steps, told, blocks, boot in [(0, "cut", "-", 1), (1, "cut", "-", 1), (2, "cut", "0", 1), (3, "block 0", "0", 0), (99, "block 0", "0", 0)]:
            desk = Desk(SETUP, SHAPE)
            self.assertEqual(desk.say(f"cut {steps} hear 4 0 0 7 1 0:10"), told)
            self.assertEqual((desk.say("blocks"), desk.world.rboot), (blocks, boot))

    def test_errors_of_new_desks(self):
        self.assertEqual(caught(BadSetup, Desk, None, None).at, -1)
        for bad in [*NO_SHAPE, (3, 2, 6, 2, 3)]:
            self.assertIs(caught(Refused, Desk, SETUP, bad).at, bad)


class Lines(unittest.TestCase):
    def bad_lines(self):
        """Lines that have none of the forms: good ones, bent at a word or a blank."""
        told = [*ODD, "", " ", "-", "hear", "cut", "Told", "TOLD", "told\n", "\ttold", "told.", "hear:0", "quit", 0, b"told", ["told"], ("told",)]
        told = [bad for bad in told if not (isinstance(bad, str) and bad in GOOD_LINES)]
        for line in GOOD_LINES:
            words = line.split(" ")
            told += [line + " ", " " + line, line.upper(), line + "\n", line + " x", line + " -1", line + " 0:1:2", line.replace("0", "00", 1) + "0" * 9]
            told += [line.replace(" ", "  ", 1), line.replace(" ", "\t", 1), line.replace(" ", "\u00a0", 1)] if " " in line else []
            for at, word in enumerate(words[1:], 1):
                if word.isdigit():
                    bad_words = ["-1", "-0", "+1", "01", "00", "", "x", "1.0", "1e3", "1_0", "0x1", "\u0661", "\u00b2", "1234567890", "0" * 9, "None", "0:0"]
                    # A limit, unlike all others, can be below 0.
                    bad_words = bad_words[1:] if (words[0], at) == ("limit", 2) else bad_words
                    told += [" ".join([*words[:at], bad, *words[at + 1:]]) for bad in bad_words]
                if ":" in word:
                    bad_words = ["0:", ":0", "0:-0", "0:+1", "-1:0", "0:01", "00:1", "0:1:1", "0::1", "0;1", "0: 1", "0:1234567890", "0:-1234567890", "0:x", "0:--1"]
                    told += [" ".join([*words[:at], bad, *words[at + 1:]]) for bad in bad_words]
                if word in ("sent", "heard", "hear"):
                    told += [" ".join([*words[:at], bad, *words[at + 1:]]) for bad in ("Sent", "send", "", "0", "cut", "told")]
        told += ["hear 0 0 0 0", "cut hear 0 0 0 0 0", "cut 0 0 0 0 0 0", "cut 0 hear 0 0 0 0", "cut 0 cut 0 hear 0 0 0 0 0", "ask", "ask 0"]
        told += ["ask 0 0 0", "release", "release 0 0", "lose", "lose 0 0", "told 0", "blocks 0", "asks 0", "time", "time sent 0 sent", "time sent 0"]
        told += ["time 0 sent 0 sent", "time sent 0 sent 0 0", "order sent sent 0 0", "limit", "limit 0", "limit 0 0 0", "limit -1 0", "limit 0 -0"]
        told += ["limit 0 --1", "limit 0 -", "limit 0 -01", "hear 0 0 0 0 0 0", "hear 0 0 0 0 0 0:0 ", "hear 0:0 0 0 0 0 0"]
        return told

    def test_those_that_have_none_of_the_forms(self):
        desk = Desk(SETUP, SHAPE)
        desk.say("hear 4 0 0 7 1 0:10")
        was = Book.state(desk)
        many = 0
        for bad in self.bad_lines():
            self.assertEqual(caught(BadText, desk.say, bad).at, 0, bad)
            many += 1
        self.assertGreater(many, 700)
        self.assertEqual(Book.state(desk), was)

    def test_those_that_have_one(self):
        for line in GOOD_LINES:
            self.assertIsInstance(Desk(SETUP, SHAPE).say(line), str)
        desk = Desk(SETUP, SHAPE)
        self.assertEqual(desk.say("limit 0 -1"), "kept")
        self.assertEqual(desk.say("hear 999999999 0 0 0 0"), "refused")
        self.assertEqual(desk.say("hear 0 0 0 0 0 0:999999999"), "refused")
        self.assertEqual(desk.say("hear 0 0 0 0 0 1:0"), "refused")
        self.assertEqual(desk.say("hear 0 0 0 0 0 0:-1000000"), "block 0")

    def test_refused_lines_change_nothing(self):
        desk = Desk(SETUP, SHAPE)
        lines = ["hear 4 0 0 7 1 0:10", "ask 1 0", "lose 0"]
        self.assertEqual([desk.say(line) for line in lines], ["block 0", "given 0 0 0", "ok"])
        was = copy.deepcopy(Book.state(desk))
        refused = [
            "hear 4 2 0 7 1", "hear 1000001 0 0 7 1", "cut 0 hear 4 0 256 7 1", "ask 1001 0", "ask 0 1001", "release 1", "lose 0", "lose 1", "lose 3",
            "restart" + " 0" * 255, "time sent 0 sent 1", "time heard 9 sent 0", "order sent 0 sent 1", "limit 2 0", "limit 1 0",
        ]
        for line in refused:
            self.assertEqual(desk.say(line), "refused")
            self.assertEqual(Book.state(desk), was)

    def test_the_last_start(self):
        desk = Desk(SETUP, SHAPE)
        for turn in range(51):
            self.assertEqual(desk.say("restart 0 1 2 3"), f"boot {5 * turn + 5}")
        for line in ("restart", "restart 0", "cut 9 hear 0 0 0 0 0", "cut 0 hear 0 0 0 0 0"):
            self.assertEqual(desk.say(line), "refused")
        self.assertEqual(desk.say("hear 0 0 0 0 0"), "block 0")

    def test_a_hundred_lines_soon(self):
        setup = (((1, 9, 0, 0, 1, 99),), (1, 9), ((0, 100),))
        desk = Desk(setup, (8, 5, 30, 9, 30))
        lines = [f"hear {at} 0 0 {at} {2 * at} 0:{at}" for at in range(60)]
        lines += ["told", "time sent 59 heard 50", "order sent 59 heard 50", "limit 0 9999"] * 10
        told = soon(self, 30, lambda: [desk.say(line) for line in lines])
        self.assertEqual(told[:60], [f"block {at}" for at in range(60)])
        # Nine stamps of the recorder, eighteen of the source, from 1 to 9 ticks each.
        self.assertEqual(told[60:64], ["told", "-81 -18", "behind", "kept"])


if __name__ == "__main__":
    unittest.main()
