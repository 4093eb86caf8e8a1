"""Points [1], [2]: what holds for every function of the interface, called with plain arguments of each."""

import copy
import importlib
import inspect
import unittest

from plain import ODD, all_tuples, chance, same, with_part
from test_interface import FUNCTIONS
from wrecktold import errors
from wrecktold.chips import Chips
from wrecktold.courses import course
from wrecktold.keeps import Keeps
from wrecktold.limits import story_with
from wrecktold.order import Story, order_paper
from wrecktold.recorder import open_recorder
from wrecktold.world import World

SYSTEM = (3, ((0, 1, 2), (1, 2, -1), (2, 0, 0), (0, 2, 5)))
SOURCE = (1, 2, 0, 0, 3, 9)
SETUP = ((SOURCE, (1, 1, 0, 0, 2, 9)), (1, 1), ((0, 2), (1, None)))
FRAME = (0, 0, 0, 10, ((0, 5),))
ROWS = ((0, 0, 0, 0, 0, 10, ((0, 5),)), (0, 4, 0, 0, 1, 13, ((0, 6),)), (0, 9, 1, 0, 2, 17, ((1, 9),)))
COURSE = ((0, 0), (4, 4), (9, 9))
SHAPE = (3, 2, 6, 2, 40)
MARK = (0, 5, 6)
CAUSES = (((0, 5, 5), (0, 6, 6), 0, 4), (MARK, (1, 9, 9), 2, 9))
JOINT = (SETUP[0], ((1, 1), (1, 2)), SETUP[2])
WRECKS = (ROWS, ROWS[:1])
PIECES = ((1, 3), (2, 256), (3, 252))


def flown():
    """A world in which some rows were heard."""
    world = World(SETUP, SHAPE)
    world.hear(0, FRAME)
    world.ask(1, 0)
    world.hear(9, (1, 0, 2, 17, ((1, 9),)))
    return world


MEMORY = flown().wreck()

# By function the arguments of some call that tells something.
CALLS = {
    "words": {"need_octets": ((1, 2),)},
    "forms": {
        "is_value": ((1, "ab"),), "is_row": (("ab", 1),), "write_value": ((1, (None,)),), "write_row": (("ab", (1,)),), "value_length": ((3,),),
        "read_value": ((9, 4, 1, 1, 0), 1), "whole_value": ((4, 1, 1, 0),), "read_row": ((4, 1, 1, 3, 0), 0), "read_rows": ((4, 1, 1, 3, 0),),
        "healing": ((4, 1),),
    },
    "differences": {
        "is_edge": (3, (0, 1, 2)), "check_system": (SYSTEM,), "values_hold": (SYSTEM, (-1, 0, -1)), "ring_holds": (SYSTEM, (0, 1)),
        "way_holds": (SYSTEM, 0, 2, (0, 1)), "solved": (SYSTEM,), "with_edges": (SYSTEM, ((0, 1, 9),)), "solved_with": (SYSTEM, ((0, 1, 1),)),
        "has_answer": (SYSTEM,), "span": (SYSTEM, 0, 1), "way": (SYSTEM, 0, 2), "met": (SYSTEM, 0, 1, 2), "table": (SYSTEM,),
        "implied": (SYSTEM, (0, 2, 1)), "within": (SYSTEM, (3, ((0, 2, 1),))), "thinned": (SYSTEM,),
    },
    "setups": {
        "check_setup": (SETUP,), "need_channel": (SETUP, 1), "check_frame": (SETUP, FRAME), "check_row": (SETUP, ROWS[0]),
        "check_rows": (SETUP, ROWS), "rows_of": (ROWS, 0), "readings_of": (ROWS, 0), "neighbours": ((0, 3, 7),),
    },
    "numbers": {
        "counts": (SOURCE, (0, 10), (2, 17)), "ahead_counts": (SOURCE, (2, 17)), "doubt_span": (SOURCE,), "run_holds": (SOURCE, ((0, 3), (1, 7))),
        "run_between": (SOURCE, (0, 10), (2, 17), 2), "run_to": (SOURCE, (2, 17), 2), "missing": (SETUP, ROWS), "false_pair": (SETUP, ROWS),
        "missing_sums": (SETUP, ROWS, 0),
    },
    "clocks": {
        "sent": (1,), "heard": (1,), "bounds_of": (SETUP, ROWS), "system_of": (SETUP, ROWS), "edge_words": (SETUP, ROWS),
        "course_faults": (SETUP, ROWS, COURSE), "course_holds": (SETUP, ROWS, COURSE),
    },
    "tents": {
        "check_tent": ((0, 3, 2, 5),), "values_at": ((0, 3, 2, 5), 2), "highest": ((0, 3, 2, 5),), "lowest": ((0, 3, 2, 5),),
        "path_holds": ((0, 3, 2, 2), (0, 1, 3)), "path_at": ((0, 3, 2, 5), 2, 1), "above_at": ((0, 3, 2, 5), 1),
        "can_be_above": ((0, 3, 2, 5), 1), "many_above": ((0, 3, 2, 5), 1),
    },
    "packing": {
        "row_octets": (SETUP, ROWS[0]), "row_length": (SETUP, ROWS[0]), "most_length": (SETUP,),
        "row_at": (SETUP, (0, 0, 0, 0, 0, 0, 0, 0, 0, 10, 0), 0), "packed": (SETUP, ROWS[0], 20),
        "unpacked": (SETUP, (0, 0, 0, 0, 0, 0, 0, 0, 0, 10, 0, 0)),
    },
    "codes": {"coded": (4, 2, (5, 7)), "fits": (4, 2, (5, 7, 9, 12)), "told_data": (4, 2, (None, 7, None, 11)), "mended": (4, 2, (5, 7, 200, 11))},
    "pieces": {
        "pieces_of": (3, 2, 2, (1, 2, 3)), "pieces_fit": (3, 2, 2, PIECES), "octets_of": (3, 2, 2, PIECES), "mended_pieces": (3, 2, 2, PIECES),
    },
    "slots": {
        "slot_of": (5, 13), "ring_row": (5, 13), "torn_row": (5, 13), "is_ring_row": ((3, 4, 2),), "most_looks": (5,), "newest": ((3, 4, 2),),
        "goes_on": ((3, 4, 2),),
    },
    "keeps": {
        "check_stretches": (((0, 3),),), "needed": (12, 2, ((5, 7),)), "need_at": (12, 2, ((5, 7),)), "in_all": (((5, 7),),),
        "first_full": (6, 2, 12, ((5, 7), (12, 13))), "place_in": ((3, 4, 2), 5, 1, ((3, 3),)),
    },
    "blocks": {
        "need_shape": (SHAPE,), "data_room": (SHAPE, ((0, 0, 3),)), "block_octets": (SHAPE, ((0, 0, 3),), (1, 2)),
        "block_told": (SHAPE, (4, 0, 1, 2)), "slot_blocks": ((3, 2, 6, 2, 2), ((0, (1, 3)), "torn", None)),
    },
    "salvage": {
        "salvage": (SHAPE, MEMORY), "short_blocks": (SHAPE, MEMORY), "torn_places": (SHAPE, MEMORY), "lost_chips": (SHAPE, MEMORY),
        "told_blocks": (SHAPE, MEMORY), "data_of": (SHAPE, MEMORY, 0), "asks_of": (SHAPE, MEMORY), "holes": (SHAPE, MEMORY),
    },
    "happenings": {
        "need_happening": (ROWS, ("sent", 1)), "variable": (ROWS, ("sent", 1)), "happenings": (ROWS,), "time_of": (COURSE, ("heard", 2)),
    },
    "courses": {
        "quarrel": (SETUP, ROWS), "need_true": (SETUP, ROWS), "course_of": ((0, 0, 4, 4),), "course_with": (SETUP, ROWS, ((0, 2, 4),)),
        "course": (SETUP, ROWS), "stretch": (SETUP, ROWS, ("sent", 0), ("heard", 2)), "course_at": (SETUP, ROWS, ("sent", 0), ("heard", 2), 9),
    },
    "limits": {
        "gaps": (SETUP, ROWS, 0), "reach": (SETUP, ROWS, 0), "limit_words": (SETUP, ROWS, 0, 7), "limit_word": (SETUP, ROWS, 0, 7),
        "story_holds": (SETUP, ROWS, 0, 0, story_with(SETUP, ROWS, 0, 0, 7)), "story_with": (SETUP, ROWS, 0, 0, 7),
        "above": (SETUP, ROWS, 0, 7), "surely_above": (SETUP, ROWS, 0, 0),
    },
    "order": {
        "order_word": ((None, 3),), "order": (SETUP, ROWS, ("sent", 0), ("heard", 2)), "orders": (SETUP, ROWS),
        "order_paper": (SETUP, ROWS, ("sent", 0), ("heard", 2)),
        "open_holds": (SETUP, ROWS, ("sent", 0), ("sent", 1), order_paper(SETUP, ROWS, ("sent", 0), ("sent", 1))),
    },
    "questions": {
        "marked": (SETUP, ROWS, MARK), "follows": (COURSE, 0, (1, 2), 4), "followed": (SETUP, ROWS, 0, MARK, 4),
        "each_followed": (SETUP, ROWS, MARK, (1, 0, 9), 4), "count_in": (COURSE, (0, 1), ("sent", 0), ("heard", 2)),
        "counted": (SETUP, ROWS, ("sent", 0), ("heard", 2), MARK), "first_of": (SETUP, ROWS, (MARK, (1, 0, 9))),
    },
    "causes": {
        "explained_course": (SETUP, ROWS, CAUSES, 2), "bare_course": (SETUP, ROWS, CAUSES, 2), "explained": (SETUP, ROWS, CAUSES, 2),
        "roots": (SETUP, ROWS, CAUSES), "chain_course": (SETUP, ROWS, CAUSES, ((0, 0, 1), (1, 1, 2))),
        "chain_word": (SETUP, ROWS, CAUSES, ((0, 0, 1), (1, 1, 2))), "sure_links": (SETUP, ROWS, CAUSES), "surely_from": (SETUP, ROWS, CAUSES, 0),
    },
    "joined": {
        "frames_of": (JOINT, WRECKS), "joint_system": (JOINT, WRECKS), "joint_quarrel": (JOINT, WRECKS), "joint_course": (JOINT, WRECKS),
        "joint_stretch": (JOINT, WRECKS, ("sent", 0, 0), ("heard", 1, 0)), "left_out": (JOINT, WRECKS),
    },
    "budget": {
        "most_rows": (SETUP, 9), "least_ticks": (SETUP, 9), "fastest": (SETUP, 9), "covered": (SETUP, 9), "kept_for": (SETUP, 9),
        "budget": (SETUP, 9, 99),
    },
    "meaning": {
        "wreck_rows": (SETUP, SHAPE, MEMORY), "unread": (SETUP, SHAPE, MEMORY), "meaning": (SETUP, SHAPE, MEMORY),
        "wreck_stretch": (SETUP, SHAPE, MEMORY, ("sent", 0), ("heard", 2)), "wreck_order": (SETUP, SHAPE, MEMORY, ("sent", 0), ("heard", 2)),
    },
}
# What is told of objects that change is looked at elsewhere.
OF_OBJECTS = {("keeps", "keeps_of"), ("recorder", "open_recorder")}
# Arguments whose form is not looked at.
AS_DESCRIBED = {
    ("setups", "rows_of"), ("setups", "readings_of"), ("setups", "neighbours"), ("clocks", "sent"), ("clocks", "heard"),
    ("happenings", "happenings"), ("courses", "course_of"), ("order", "order_word"), ("questions", "follows"), ("questions", "count_in"),
    ("slots", "newest"), ("slots", "goes_on"), ("differences", "is_edge", "many"), ("happenings", "need_happening", "rows"),
    ("happenings", "variable", "rows"), ("happenings", "time_of", "course"), ("keeps", "needed", "last"), ("keeps", "need_at", "last"),
    ("keeps", "place_in", "last"),
}
# Numbers for which only errors are promised, not answers, if they are so great.
BEYOND = {"packed": ("many",)}
KINDS = tuple(kind for kind in vars(errors).values() if inspect.isclass(kind))


def all_calls():
    """(file, name, function, arguments, arguments by names alone) of each function."""
    for file, words in FUNCTIONS.items():
        module = importlib.import_module(f"wrecktold.{file}")
        for word in words.split():
            name = word.split("(")[0]
            if (file, name) not in OF_OBJECTS:
                call = getattr(module, name)
                yield file, name, call, CALLS[file][name], {"most": 99} if "most" in inspect.signature(call).parameters else {}


def as_lists(value):
    return [as_lists(part) for part in value] if isinstance(value, (list, tuple)) else value


def bent_within(dice, value, bad):
    """A sequence with another part at some place, perhaps deep in it."""
    if not isinstance(value, tuple) or not value or dice.random() < 0.2:
        return bad
    at = dice.randrange(len(value))
    return with_part(value, at, bent_within(dice, value[at], bad))


class Whole(unittest.TestCase):
    def test_each_function_is_called(self):
        self.assertGreater(len(list(all_calls())), 120)

    def test_lists_as_tuples_and_by_names(self):
        for file, name, call, args, named in all_calls():
            with self.subTest(file=file, name=name):
                told = call(*args, **named)
                self.assertTrue(all_tuples(told) or name == "frames_of")
                lists = [as_lists(arg) for arg in args]
                was = copy.deepcopy(lists)
                self.assertTrue(same(call(*lists, **named), told))
                self.assertTrue(same(lists, was))
                names = list(inspect.signature(call).parameters)
                self.assertTrue(same(call(**dict(zip(names, args)), **named), told))
                self.assertTrue(same(call(**dict(reversed(list(zip(names, lists)))), **named), told))

    def test_any_value(self):
        for file, name, call, args, named in all_calls():
            names = list(inspect.signature(call).parameters)
            for at in range(len(args)):
                if {(file, name), (file, name, names[at])} & AS_DESCRIBED:
                    continue
                for bad in [*ODD, KINDS[0]("x"), Keeps(2, 1), Chips(1, 1), Story(SETUP)]:
                    if bad == 10 ** 40 and names[at] in BEYOND.get(name, ()):
                        continue
                    try:
                        told = call(*args[:at], bad, *args[at + 1:], **named)
                    except KINDS as error:
                        self.assertNotIsInstance(error, errors.Cut)
                    else:
                        self.assertIsNotNone(all_tuples(told))

    def test_any_value_within(self):
        dice = chance(191)
        for file, name, call, args, named in all_calls():
            names = list(inspect.signature(call).parameters)
            looked = [at for at in range(len(args)) if not {(file, name), (file, name, names[at])} & AS_DESCRIBED and isinstance(args[at], tuple)]
            for turn in range(60 if looked else 0):
                at = dice.choice(looked)
                bad = dice.choice([part for part in ODD if part not in (10 ** 40, -(10 ** 40))])
                try:
                    call(*args[:at], bent_within(dice, args[at], bad), *args[at + 1:], **named)
                except KINDS as error:
                    self.assertNotIsInstance(error, errors.Cut)

    def test_no_answer_hangs_on_calls_in_between(self):
        first = [call(*args, **named) for _, _, call, args, named in all_calls()]
        again = [call(*args, **named) for _, _, call, args, named in reversed(list(all_calls()))][::-1]
        self.assertTrue(same(first, again))


class Objects(unittest.TestCase):
    def test_later_changes_of_what_was_passed_or_told(self):
        setup = as_lists(SETUP)
        story, world = Story(setup), World(setup, as_lists(SHAPE))
        row, frame = as_lists(ROWS[0]), as_lists(FRAME)
        story.take(row)
        world.hear(0, frame)
        for part in (setup, setup[0], setup[0][0], row, row[6], row[6][0], frame, frame[4][0]):
            part.clear()
        self.assertEqual((story.setup, story.rows, world.setup), (SETUP, ROWS[:1], SETUP))
        self.assertEqual(world.told(), ("told", (0,), (ROWS[0],), ()))
        self.assertEqual(story.take(ROWS[1]), 1)

    def test_two_of_them_know_nothing_of_one_another(self):
        one, other = World(SETUP, SHAPE), World(SETUP, SHAPE)
        one.hear(0, FRAME)
        one.lose(1)
        one.restart()
        self.assertEqual((other.told(), other.rboot, other.wreck()), (("told", (), (), ()), 0, ((None,) * 6,) * 3))
        stories = Story(SETUP), Story(SETUP)
        stories[0].take(ROWS[0])
        self.assertEqual((stories[1].rows, stories[1].take(ROWS[1])), ((), 0))

    def test_a_recorder_on_the_chips_of_a_world(self):
        world = flown()
        recorder = open_recorder(world.chips.twin(), SHAPE)
        self.assertEqual((recorder.ring.asks, recorder.ring.number), (((0, 0, 0),), 3))
        self.assertEqual(len(course(SETUP, world.told()[2])), 2)


if __name__ == "__main__":
    unittest.main()
