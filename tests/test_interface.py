"""The interface: the names, the files that define them, and the names of their arguments."""

import ast
import importlib
import inspect
import pathlib
import unittest

PACKAGE = pathlib.Path(__file__).resolve().parent.parent / "wrecktold"

FUNCTIONS = {
    "words": "need_octets(value)",
    "forms": """is_value(value) is_row(value) write_value(value) write_row(row) value_length(value) read_value(octets,at)
        whole_value(octets) read_row(octets,at) read_rows(octets) healing(octets)""",
    "differences": """is_edge(many,value) check_system(value) values_hold(system,value) ring_holds(system,value)
        way_holds(system,tail,head,value) solved(system) with_edges(system,edges) solved_with(system,edges) has_answer(system)
        span(system,one,other) way(system,tail,head) met(system,one,other,value) table(system) implied(system,edge)
        within(system,other) thinned(system)""",
    "setups": """check_setup(value) need_channel(setup,value) check_frame(setup,value) check_row(setup,value) check_rows(setup,value)
        rows_of(rows,source) readings_of(rows,channel) neighbours(places)""",
    "numbers": """counts(source,one,other) ahead_counts(source,one) doubt_span(source) run_holds(source,value)
        run_between(source,one,other,count) run_to(source,one,count) missing(setup,rows) false_pair(setup,rows)
        missing_sums(setup,rows,source)""",
    "clocks": """sent(place) heard(place) bounds_of(setup,rows) system_of(setup,rows) edge_words(setup,rows)
        course_faults(setup,rows,course) course_holds(setup,rows,value)""",
    "tents": """check_tent(value) values_at(tent,tick) highest(tent) lowest(tent) path_holds(tent,value) path_at(tent,tick,value)
        above_at(tent,limit) can_be_above(tent,limit) many_above(tent,limit)""",
    "packing": """row_octets(setup,row) row_length(setup,row) most_length(setup) row_at(setup,octets,at) packed(setup,row,many)
        unpacked(setup,octets)""",
    "codes": "coded(count,need,data) fits(count,need,row) told_data(count,need,row) mended(count,need,row)",
    "pieces": """pieces_of(count,need,cells,octets) pieces_fit(count,need,cells,pieces) octets_of(count,need,cells,pieces)
        mended_pieces(count,need,cells,pieces)""",
    "slots": """slot_of(many,number) ring_row(many,count) torn_row(many,count) is_ring_row(value) most_looks(many) newest(row)
        goes_on(row)""",
    "keeps": """check_stretches(value) needed(number,last,stretches) need_at(number,last,stretches) in_all(stretches)
        first_full(slots,last,number,stretches) place_in(row,number,last,stretches) keeps_of(slots,last,row,asks)""",
    "blocks": """need_shape(value) data_room(shape,asks) block_octets(shape,asks,data) block_told(shape,octets)
        slot_blocks(shape,pieces)""",
    "recorder": "open_recorder(chips,shape)",
    "salvage": """salvage(shape,memory) short_blocks(shape,memory) torn_places(shape,memory) lost_chips(shape,memory)
        told_blocks(shape,memory) data_of(shape,memory,number) asks_of(shape,memory) holes(shape,memory)""",
    "happenings": "need_happening(rows,value) variable(rows,happening) happenings(rows) time_of(course,happening)",
    "courses": """quarrel(setup,rows) need_true(setup,rows) course_of(values) course_with(setup,rows,edges) course(setup,rows)
        stretch(setup,rows,one,other) course_at(setup,rows,one,other,time)""",
    "limits": """gaps(setup,rows,channel) reach(setup,rows,channel) limit_words(setup,rows,channel,limit)
        limit_word(setup,rows,channel,limit) story_holds(setup,rows,channel,at,value) story_with(setup,rows,channel,at,value)
        above(setup,rows,channel,limit) surely_above(setup,rows,channel,limit)""",
    "order": """order_word(told) order(setup,rows,one,other) orders(setup,rows) order_paper(setup,rows,one,other)
        open_holds(setup,rows,one,other,value)""",
    "questions": """marked(setup,rows,mark) follows(course,place,others,within) followed(setup,rows,place,mark,within)
        each_followed(setup,rows,mark,other,within) count_in(course,others,one,other) counted(setup,rows,one,other,mark)
        first_of(setup,rows,marks)""",
    "causes": """explained_course(setup,rows,causes,place) bare_course(setup,rows,causes,place,most)
        explained(setup,rows,causes,place,most) roots(setup,rows,causes,most) chain_course(setup,rows,causes,chain)
        chain_word(setup,rows,causes,chain) sure_links(setup,rows,causes) surely_from(setup,rows,causes,place)""",
    "joined": """frames_of(joint,wrecks) joint_system(joint,wrecks) joint_quarrel(joint,wrecks) joint_course(joint,wrecks)
        joint_stretch(joint,wrecks,one,other) left_out(joint,wrecks,most)""",
    "budget": """most_rows(setup,ticks) least_ticks(setup,many) fastest(setup,many) covered(setup,kept) kept_for(setup,ticks)
        budget(setup,kept,ticks)""",
    "meaning": """wreck_rows(setup,shape,memory) unread(setup,shape,memory) meaning(setup,shape,memory)
        wreck_stretch(setup,shape,memory,one,other) wreck_order(setup,shape,memory,one,other)""",
}
# The only arguments that are passed by their names alone.
NAMED = {"most", "steps"}
METHODS = {
    ("edits", "Bounds"): """__init__(many) grow() told_edges() answer() lay(edge) lift(number) ring_with(edges) can(edges)
        span(one,other) way(tail,head)""",
    ("keeps", "Keeps"): """__init__(slots,last) stretches() first_there() stretch_of(ahead,behind) full_with(ahead,behind)
        ask(ahead,behind) release(name) place() go_on() torn()""",
    ("chips", "Chips"): """__init__(many,slots,steps) is_lost(chip) read(chip,slot) write(chip,slot,piece) lose(chip) give(steps)
        memory() twin()""",
    ("recorder", "Recorder"): "hear(data) room() ask(ahead,behind) release(name)",
    ("order", "Story"): "__init__(setup) take(row) order(one,other)",
    ("world", "World"): """__init__(setup,shape) restart(cuts) hear(rstamp,frame,steps) ask(ahead,behind,steps) release(name,steps)
        lose(chip) wreck() told()""",
    ("desk", "Desk"): "__init__(setup,shape) say(line)",
}


def told(call, skip):
    """A function's name and the names of its arguments."""
    names = list(inspect.signature(call).parameters)[skip:]
    return f"{call.__name__}({','.join(names)})"


class Interface(unittest.TestCase):
    def test_functions(self):
        for file, words in FUNCTIONS.items():
            module = importlib.import_module(f"wrecktold.{file}")
            for word in words.split():
                call = getattr(module, word.split("(")[0])
                self.assertEqual(call.__module__, module.__name__)
                self.assertEqual(told(call, 0), word)
                for name, part in inspect.signature(call).parameters.items():
                    self.assertIs(part.default, part.empty)
                    self.assertEqual(part.kind is part.KEYWORD_ONLY, name in NAMED)

    def test_methods_stand_in_their_class(self):
        for (file, name), words in METHODS.items():
            kind = getattr(importlib.import_module(f"wrecktold.{file}"), name)
            self.assertEqual(kind.__module__, f"wrecktold.{file}")
            for word in words.split():
                self.assertEqual(told(vars(kind)[word.split("(")[0]], 1), word)

    def test_they_are_defined_where_they_stand(self):
        for file, words in FUNCTIONS.items():
            tree = ast.parse((PACKAGE / f"{file}.py").read_text())
            defined = {node.name for node in tree.body if isinstance(node, ast.FunctionDef)}
            self.assertLessEqual({word.split("(")[0] for word in words.split()}, defined)

    def test_what_need_not_be_passed(self):
        for (file, name), words in METHODS.items():
            kind = getattr(importlib.import_module(f"wrecktold.{file}"), name)
            for word in words.split():
                for part in inspect.signature(vars(kind)[word.split("(")[0]]).parameters.values():
                    told = {"cuts": (), "steps": None}.get(part.name, part.empty)
                    self.assertEqual(part.default, part.empty if word.startswith("give(") else told)

    def test_all_files_are_there(self):
        there = {path.stem for path in PACKAGE.glob("*.py")}
        self.assertLessEqual({*FUNCTIONS, *[file for file, _ in METHODS], "errors"}, there)


if __name__ == "__main__":
    unittest.main()
