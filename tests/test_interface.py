"""The names, arguments and places of the interface."""

import importlib
import inspect
import unittest

FUNCTIONS = {
    "words": "is_integer(thing) is_truth(thing) is_name(thing) are_names(thing) is_fact(thing) is_way(thing) is_exit(thing)",
    "rows": "is_row(thing) are_rows(thing) bodies(row) with_bodies(row,some) how_many(rows) depth(rows) paths(rows) "
            "row_at(rows,path) put(rows,path,row) out(rows,path) changed(rows,path,some) names_in(rows,kind) "
            "renamed(rows,kind,names)",
    "answers": "are_answers(sheet,thing) is_forbidden(sheet,answers) is_out_list(sheet,thing) all_answers(sheet) "
               "lets(sheet,answers,step,outcome) can_be(sheet) behind(sheet,answers,step,outcome) out_list(sheet) "
               "idle_facts(sheet) implied(sheet,pairs)",
    "worlds": "whole_world(sheet) trace_world(sheet,trace) is_trace(sheet,thing)",
    "laying": "machine_of(program) places_of(program) points_of(program,address)",
    "ways": "reached(machine) exits(machine) losses(program) idle_rows(program) known_asks(program) can_never(machine) "
            "exit_trace(machine,told) never_trace(machine) loss_trace(program,loss) lost_behind(program,trace)",
    "alike": "pairs(one,other) are_pairs(one,other,thing) show_same(one,other) is_parting(one,other,thing) "
             "parting(one,other) alike_points(one,point,other,answers)",
    "tables": "table_of(machine) is_table_of(machine,thing) machine_from(table) least_traces(table)",
    "playing": "played(machine,world,state) written(machine,world,state) trace_of(machine,world,state)",
    "rings": "is_road(machine,thing) is_ring(machine,thing) is_crossing(machine,thing) doors(machine,ring) passed(machine) "
             "leads_back(machine) door_road(machine,ring,point) crossing(machine)",
    "leading": "tree_of(machine) is_tree_of(machine,thing)",
    "learning": "book_of(machine,heads,tails) learned(machine) filled(machine,book) corrected(machine,book,trace) "
                "table_led(book) is_learned(machine,thing)",
    "runs": "is_run(machine,thing) is_beginning(machine,thing) node_of(machine,points) nodes(machine) "
            "next_nodes(machine,node) log(machine,watch,points) runs(machine,most) run_count(machine)",
    "watches": "tells_runs(machine,watch) tells_beginnings(machine,watch) are_sides(machine,watch,thing) "
               "two_runs(machine,watch) two_beginnings(machine,watch) silent_round(machine,watch) sides(machine,watch)",
    "lots": "least_telling(machine,way) greatest_silent(machine,way) needed_words(machine,way) fewest_words(machine,way)",
    "torn": "is_torn(watch,thing) log_fits(watch,torn,log) run_fits(machine,watch,torn,run) lesser(watch,one,other)",
    "behind": "count_runs(machine,watch,torn) least_run(machine,watch,torn) sure_points(machine,watch,torn) "
              "can_points(machine,watch,torn) sure_rows(program,watch,torn) can_rows(program,watch,torn) "
              "first_runs(machine,watch,torn,many) missed_run(machine,watch,torn,point)",
    "frames": "told_back(machine,watch,log,point) carried(frame,machine)",
    "pieces": "pieces(program) is_piece(program,thing) rows_of(program,piece) leading_out(program,piece) "
              "ways_of(program,piece) comes_with(program,piece) alone(program,piece)",
    "cutting": "alike_everywhere(program,one,other) alike_here(program,one,other) stands_for(program,piece,rows) "
               "parting_here(program,one,other) exchanged(program,piece,rows) cut_out(program,piece,name) "
               "put_back(program,address) idle_procedures(program) pruned(program)",
    "notation": "show_sheet(sheet) show_rows(rows) show_program(program) show_machine(machine) show_trace(trace)",
    "mending": "kind_of(line) closes(text) is_mend(text,thing) is_floor(text,thing) cost(mend) fewest(text) mend(text) "
               "mended(text,mend) floor(text)",
    "readers": "read_sheet(text) read_rows(text) read_program(sheet,text) read_machine(sheet,text) read_trace(text)",
    "versions": "is_deed(thing) version_behind(program,deed)",
    "shared": "can_share(program,some) share_lots(program,some) fewest_lots(program,some) share(program,some,name)",
}
CLASSES = {
    "sheets.Sheet": "__init__(cells,asks,steps,facts=()) __eq__(other) cells() names() asks() steps() facts() looks(name) "
                    "puts(name) outcomes(name) leaves(name) with_fact(fact) without_fact(fact) renamed(kind,names)",
    "worlds.World": "__init__(sheet,states) __eq__(other) __len__() states() answers(state) lead(state,step) keeps() "
                    "broken()",
    "machines.Machine": "__init__(sheet,points) __eq__(other) __len__() points() behind(point) marks() "
                        "move(point,answers) goes_along(trace) shows(trace) from_point(point)",
    "tables.Table": "__init__(sheet,begins,states) __eq__(other) __len__() begins() states() goes_along(trace) "
                    "shows(trace) state_behind(trace)",
    "programs.Program": "__init__(sheet,rows,procedures=None) __eq__(other) __len__() rows(name='') procedures() "
                        "addresses() names_in(kind) row_at(address) around(address) led_to(address) with_rows(name,rows) "
                        "without(name) put(address,row) out(address) changed(address,some) renamed(kind,names)",
    "logbooks.LogBook": "__init__(sheet,heads,tails,shown) __eq__(other) heads() tails() traces() row(trace) gap() "
                        "agrees(machine)",
    "frames.Frame": "__init__(machine,world,state) machine() world() point() state() points() log(watch) answers() step() "
                    "back() go(most) copied()",
    "moves.Yard": "__init__(machines,moves) machines() moves() needless() harmless() stands() lapse() are_stands(thing) "
                  "is_safe() is_lapse(thing)",
    "book.Book": "__init__(program) __eq__(other) __len__() do(deed) undo() redo() program() machine() log() shown_alike() "
                 "past(many) start(world,state) frame() go(most) copied() trial(act)",
    "desk.Desk": "__init__(program) execute(text) book()",
}
PROPERTIES = ["worlds.World", "machines.Machine", "tables.Table", "programs.Program", "logbooks.LogBook"]


def module(name):
    return importlib.import_module("fourfaces." + name)


def signature(call, leave_out=0):
    """The name and the parameters of a function, as they are written above."""
    parameters = list(inspect.signature(call).parameters.values())[leave_out:]
    return f"{call.__name__}({','.join(str(parameter) for parameter in parameters)})"


class Interface(unittest.TestCase):
    def test_functions(self):
        for name, told in FUNCTIONS.items():
            for text in told.split():
                with self.subTest(file=name, function=text):
                    call = getattr(module(name), text.partition("(")[0])
                    self.assertEqual(call.__module__, "fourfaces." + name)
                    self.assertEqual(signature(call), text)

    def test_classes(self):
        for place, told in CLASSES.items():
            name, _, title = place.partition(".")
            kind = getattr(module(name), title)
            self.assertEqual(kind.__module__, "fourfaces." + name)
            for text in told.split():
                with self.subTest(kind=title, method=text):
                    method = vars(kind)[text.partition("(")[0]]
                    own = len(inspect.signature(method).parameters) - (text.count(",") + (not text.endswith("()")))
                    self.assertEqual(own, 1)
                    if not text.startswith("__eq__"):
                        self.assertEqual(signature(method, 1), text)

    def test_made_is_a_static_method(self):
        kind = module("machines").Machine
        self.assertIsInstance(vars(kind)["made"], staticmethod)
        self.assertEqual(signature(kind.made), "made(sheet,points,begin)")

    def test_properties(self):
        for place in PROPERTIES:
            name, _, title = place.partition(".")
            self.assertIsInstance(vars(getattr(module(name), title))["sheet"], property)


if __name__ == "__main__":
    unittest.main()
