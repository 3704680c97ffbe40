import unittest

import oracle
import samples
from checks import forms, raised
from fourfaces.answers import all_answers, can_be
from fourfaces.errors import TooMany
from fourfaces.laying import machine_of, places_of, points_of
from fourfaces.machines import Machine
from fourfaces.programs import Program
from fourfaces.sheets import Sheet
from fourfaces.worlds import World

SHEET = Sheet(["c"], [("p", ["c"]), ("q", [])], [("s", ["c"], ["bad", "ok"]), ("t", [], ["o"])])
END, ROUND = ("out", ("end",)), ("round",)
U, V, W = ("mark", "u"), ("mark", "v"), ("mark", "w")


def laid(*rows, **procedures):
    return machine_of(Program(SHEET, rows, procedures)).points()


def places(*rows, **procedures):
    return places_of(Program(SHEET, rows, procedures))


def raised_out(error):
    return ("out", ("raise", error))


class Rows(unittest.TestCase):
    def test_the_example(self):
        sheet = Sheet(["c"], [("p", ["c"])], [("s", ["c"], ["bad", "ok"])])
        done = ("do", "s", (("bad", (("raise", "e"),)),))
        rows = (("loop", "l", (("try", (done,), (), (("if", "p", (("leave", "l"),), ()),)),)),)
        program = Program(sheet, rows)
        machine = machine_of(program)
        self.assertEqual(forms(machine.points()), forms([
            ("do", "s", (("bad", 1), ("ok", 2))), ("ask", "p", 3, 4), ("ask", "p", 3, 0), END, raised_out("e")]))
        self.assertEqual(machine.move(2, (False,)), ("do", "s", 0))
        self.assertEqual(places_of(program)[1], ((), ("", (0, 0, 0, 1, 0)), (("raise", "e"),)))
        self.assertEqual(points_of(program, ("", (0, 0, 0, 1, 0))), [1, 2])
        self.assertEqual(forms(places_of(program)), forms([
            ((), ("", (0, 0, 0, 0, 0)), ()), ((), ("", (0, 0, 0, 1, 0)), (("raise", "e"),)),
            ((), ("", (0, 0, 0, 1, 0)), (("on",),)), None, None]))

    def test_no_rows(self):
        self.assertEqual([laid(), places()], [[END], [None]])

    def test_single_rows(self):
        self.assertEqual(laid(U), [("mark", "u", 1), END])
        self.assertEqual(laid(("raise", "e")), [raised_out("e")])
        self.assertEqual(laid(("stop", "w")), [("out", ("stop", "w"))])
        self.assertEqual(laid(U, ("raise", "e"), V), [("mark", "u", 1), raised_out("e")])
        self.assertEqual(laid(U, V, U), [("mark", "u", 1), ("mark", "v", 2), ("mark", "u", 3), END])
        self.assertEqual(places(U, V), [((), ("", (0,)), ()), ((), ("", (1,)), ()), None])

    def test_dos(self):
        self.assertEqual(laid(("do", "s", ())), [("do", "s", (("bad", 1), ("ok", 1))), END])
        self.assertEqual(laid(("do", "s", (("ok", (U,)),)), V),
                         [("do", "s", (("bad", 1), ("ok", 2))), ("mark", "v", 3), ("mark", "u", 1), END])
        self.assertEqual(laid(("do", "s", (("bad", (("raise", "e"),)), ("ok", ()))), V),
                         [("do", "s", (("bad", 1), ("ok", 2))), raised_out("e"), ("mark", "v", 3), END])
        self.assertEqual(places(("do", "s", (("bad", (V,)), ("ok", (U,))))),
                         [((), ("", (0,)), ()), ((), ("", (0, 0, 0)), ()), ((), ("", (0, 1, 0)), ()), None])

    def test_ifs(self):
        self.assertEqual(laid(("if", "q", (U,), (V,)), W),
                         [("ask", "q", 1, 2), ("mark", "u", 3), ("mark", "v", 3), ("mark", "w", 4), END])
        self.assertEqual(laid(("if", "q", (), ())), [("ask", "q", 1, 1), END])
        self.assertEqual(laid(("if", "q", (), (("stop", "w"),))), [("ask", "q", 1, 2), END, ("out", ("stop", "w"))])
        self.assertEqual(places(("if", "q", (U,), (V,))),
                         [((), ("", (0,)), ()), ((), ("", (0, 0, 0)), ()), ((), ("", (0, 1, 0)), ()), None])

    def test_blocks(self):
        self.assertEqual(laid(("block", "k", (U, ("leave", "k"), V)), W), [("mark", "u", 1), ("mark", "w", 2), END])
        self.assertEqual(laid(("block", "k", (U, V)), W), [("mark", "u", 1), ("mark", "v", 2), ("mark", "w", 3), END])
        self.assertEqual(laid(("block", "k", (("block", "l", (U, ("leave", "k"))), V)), W), [("mark", "u", 1), ("mark", "w", 2), END])
        self.assertEqual(laid(("block", "k", (("raise", "e"),)), W), [raised_out("e")])
        self.assertEqual(laid(("block", "k", ())), [END])

    def test_loops(self):
        self.assertEqual(laid(("loop", "l", (U,)), W), [("mark", "u", 0)])
        self.assertEqual(laid(("loop", "l", (U, ("again", "l"), V)), W), [("mark", "u", 0)])
        self.assertEqual(laid(("loop", "l", (("if", "p", (("leave", "l"),), ()), U)), W),
                         [("ask", "p", 1, 2), ("mark", "w", 3), ("mark", "u", 0), END])
        self.assertEqual(laid(("loop", "l", (("do", "t", ()), ("stop", "w")))), [("do", "t", (("o", 1),)), ("out", ("stop", "w"))])

    def test_the_innermost_label_counts(self):
        inner = ("block", "l", (("if", "p", (("leave", "l"),), (("again", "l"),)), V))
        # leave leaves the block, again begins the loop anew
        self.assertEqual(laid(("loop", "l", (U, inner, W, ("leave", "l")))),
                         [("mark", "u", 1), ("ask", "p", 2, 0), ("mark", "w", 3), END])
        nested = ("loop", "l", (U, ("loop", "l", (("if", "p", (("leave", "l"),), (("again", "l"),)),)), W))
        self.assertEqual(laid(nested), [("mark", "u", 1), ("ask", "p", 2, 1), ("mark", "w", 0)])

    def test_labels_with_the_names_of_asks_and_steps(self):
        self.assertEqual(laid(("loop", "p", (("if", "p", (("leave", "p"),), ()), U)), W),
                         [("ask", "p", 1, 2), ("mark", "w", 3), ("mark", "u", 0), END])
        self.assertEqual(laid(("block", "s", (("do", "s", (("bad", (("leave", "s"),)),)), U)), W),
                         [("do", "s", (("bad", 1), ("ok", 2))), ("mark", "w", 3), ("mark", "u", 1), END])
        self.assertEqual(laid(("loop", "t", (U, ("do", "t", (("o", (("again", "t"),)),)), V))),
                         [("mark", "u", 1), ("do", "t", (("o", 0),))])

    def test_again_of_an_outer_loop(self):
        rows = ("loop", "k", (U, ("loop", "l", (("if", "p", (("again", "k"),), (("leave", "k"),)),))))
        self.assertEqual(laid(rows), [("mark", "u", 1), ("ask", "p", 0, 2), END])

    def test_going_round_without_a_place(self):
        self.assertEqual(laid(("loop", "l", ())), [ROUND])
        self.assertEqual(laid(("loop", "l", (("again", "l"),))), [ROUND])
        self.assertEqual(laid(U, ("loop", "l", (("block", "k", (("leave", "k"),)),)), V), [("mark", "u", 1), ROUND])
        self.assertEqual(laid(("if", "p", (("loop", "l", ()),), (("loop", "k", (("loop", "l", (("leave", "l"),)),)),))),
                         [("ask", "p", 1, 1), ROUND])
        self.assertEqual(laid(("loop", "l", (("try", (("raise", "e"),), ((("e",), ()),), ()),))), [ROUND])
        self.assertEqual(laid(("loop", "l", (("try", (("stop", "w"),), (), (("again", "l"),)),))), [ROUND])
        self.assertEqual(laid(("loop", "l", (("call", "n"),)), n=()), [ROUND])
        self.assertEqual(places(("loop", "l", ())), [None])

    def test_no_round_where_something_comes_of_it(self):
        # the loop is begun twice, but the inner loop ends both times and the always leaves
        self.assertEqual(laid(("loop", "l", (("try", (("again", "l"),), (), (("leave", "l"),)),))), [END])
        self.assertEqual(laid(("loop", "k", (("loop", "l", (("leave", "l"),)), ("loop", "l", (("leave", "l"),)), ("leave", "k")))), [END])

    def test_one_loop_begun_under_unlike_ways_that_wait(self):
        inner = ("loop", "l", (("if", "p", (("leave", "l"),), ()),))
        rows = ("try", (("if", "q", (("raise", "e"),), ()),), (), (inner,))
        self.assertEqual(laid(rows), [("ask", "q", 1, 2), ("ask", "p", 3, 1), ("ask", "p", 4, 2), raised_out("e"), END])


class Tries(unittest.TestCase):
    def test_rows_then_always(self):
        self.assertEqual(laid(("try", (U,), (), (V,)), W), [("mark", "u", 1), ("mark", "v", 2), ("mark", "w", 3), END])
        self.assertEqual(places(("try", (U,), (), (V,)), W),
                         [((), ("", (0, 0, 0)), ()), ((), ("", (0, 1, 0)), (("on",),)), ((), ("", (1,)), ()), None])

    def test_catches(self):
        catches = ((("e",), (U,)), (("e", "f"), (V,)), ((), (W,)))
        self.assertEqual(laid(("try", (("raise", "e"),), catches, ())), [("mark", "u", 1), END])
        self.assertEqual(laid(("try", (("raise", "f"),), catches, ())), [("mark", "v", 1), END])
        self.assertEqual(laid(("try", (("raise", "g"),), catches, ())), [raised_out("g")])
        self.assertEqual(laid(("try", (), catches, ())), [END])
        self.assertEqual(laid(("try", (("stop", "e"),), catches, ())), [("out", ("stop", "e"))])
        self.assertEqual(places(("try", (("raise", "f"),), catches, (U,)), W),
                         [((), ("", (0, 2, 0)), ()), ((), ("", (0, 4, 0)), (("on",),)), ((), ("", (1,)), ()), None])

    def test_catches_do_not_see_what_their_own_try_raises_in_a_catch_or_in_always(self):
        catches = ((("e",), (("raise", "f"),)), (("f",), (U,)))
        self.assertEqual(laid(("try", (("raise", "e"),), catches, ())), [raised_out("f")])
        self.assertEqual(laid(("try", (), ((("e",), (U,)),), (("raise", "e"),))), [raised_out("e")])
        outer = ("try", (("try", (("raise", "e"),), catches, ()),), ((("f",), (V,)),), ())
        self.assertEqual(laid(outer), [("mark", "v", 1), END])

    def test_always_is_done_behind_each_way(self):
        for row, told in [(("raise", "e"), raised_out("e")), (("stop", "w"), ("out", ("stop", "w")))]:
            self.assertEqual(laid(("try", (row,), (), (U,)), V), [("mark", "u", 1), told])
            self.assertEqual(places(("try", (row,), (), (U,)), V)[0], ((), ("", (0, 1, 0)), (row,)))
        rows = ("block", "k", (("try", (("leave", "k"),), (), (U,)), V))
        self.assertEqual(laid(rows, W), [("mark", "u", 1), ("mark", "w", 2), END])
        rows = ("loop", "l", (("try", (("again", "l"),), (), (U,)), V))
        self.assertEqual(laid(rows, W), [("mark", "u", 0)])
        self.assertEqual(places(rows), [((), ("", (0, 0, 0, 1, 0)), (("again", "l"),))])

    def test_always_is_done_behind_a_catch(self):
        rows = ("try", (("raise", "e"),), ((("e",), (("stop", "w"),)),), (U,))
        self.assertEqual(laid(rows, V), [("mark", "u", 1), ("out", ("stop", "w"))])
        self.assertEqual(places(rows)[0], ((), ("", (0, 2, 0)), (("stop", "w"),)))

    def test_the_way_of_always_wins(self):
        self.assertEqual(laid(("try", (("raise", "e"),), (), (("raise", "f"),))), [raised_out("f")])
        self.assertEqual(laid(("try", (("stop", "w"),), (), (("raise", "f"),))), [raised_out("f")])
        self.assertEqual(laid(("block", "k", (("try", (("stop", "w"),), (), (("leave", "k"),)), U)), V), [("mark", "v", 1), END])
        self.assertEqual(laid(("try", (), (), (("stop", "w"),))), [("out", ("stop", "w"))])

    def test_ways_wait_one_within_another(self):
        inner = ("try", (("raise", "f"),), (), (U,))
        rows = ("try", (("raise", "e"),), (), (inner, V))
        self.assertEqual(laid(rows), [("mark", "u", 1), raised_out("f")])
        self.assertEqual(places(rows), [((), ("", (0, 1, 0, 1, 0)), (("raise", "e"), ("raise", "f"))), None])

    def test_stops_wait_for_each_always_on_their_way_out(self):
        rows = ("try", (("call", "n"),), (), (V,))
        procedure = (("try", (("stop", "w"),), ((("w",), ()),), (U,)),)
        self.assertEqual(laid(rows, W, n=procedure), [("mark", "u", 1), ("mark", "v", 2), ("out", ("stop", "w"))])
        self.assertEqual(places(rows, W, n=procedure)[:2], [((("", (0, 0, 0)),), ("n", (0, 2, 0)), (("stop", "w"),)),
                                                             ((), ("", (0, 1, 0)), (("stop", "w"),))])


class Calls(unittest.TestCase):
    def test_calls_end_as_the_rows_of_the_procedure(self):
        self.assertEqual(laid(("call", "n"), V, n=(U,)), [("mark", "u", 1), ("mark", "v", 2), END])
        self.assertEqual(laid(("call", "n"), V, n=(("raise", "e"),)), [raised_out("e")])
        self.assertEqual(laid(("try", (("call", "n"),), ((("e",), (U,)),), ()), V, n=(("raise", "e"),)),
                         [("mark", "u", 1), ("mark", "v", 2), END])

    def test_each_call_has_its_own_points(self):
        told = [((("", (0,)),), ("n", (0,)), ()), ((("", (1,)),), ("n", (0,)), ()), None]
        self.assertEqual(places(("call", "n"), ("call", "n"), n=(U,)), told)
        self.assertEqual(laid(("call", "n"), ("call", "n"), n=(U,)), [("mark", "u", 1), ("mark", "u", 2), END])

    def test_calls_one_within_another(self):
        told = places(("loop", "l", (U, ("call", "n"))), n=(("call", "z"),), z=(("if", "p", (), ()),))
        self.assertEqual(told[1], ((("", (0, 0, 1)), ("n", (0,))), ("z", (0,)), ()))

    def test_the_ways_that_wait_in_the_callers_count(self):
        rows = ("try", (("do", "s", (("bad", (("raise", "e"),)),)),), (), (("call", "n"),))
        told = places(rows, n=(("try", (), (), (U,)),))
        calls = (("", (0, 1, 0)),)
        self.assertEqual(told, [((), ("", (0, 0, 0)), ()), (calls, ("n", (0, 1, 0)), (("raise", "e"), ("on",))),
                                (calls, ("n", (0, 1, 0)), (("on",), ("on",))), None, None])

    def test_procedures_that_are_not_called_have_no_points(self):
        program = Program(SHEET, (U,), {"n": (V,)})
        self.assertEqual(machine_of(program).points(), [("mark", "u", 1), END])
        self.assertEqual(points_of(program, ("n", (0,))), [])

    def test_points_of(self):
        program = Program(SHEET, (("call", "n"), W, ("call", "n")), {"n": (U, ("if", "p", (), ()))})
        self.assertEqual([points_of(program, address) for address in program.addresses()], [[], [2], [], [0, 3], [1, 4]])

    def test_points_of_any_value(self):
        program = Program(SHEET, (U, ("if", "p", (V,), ())))
        others = [("", (9,)), ("n", (0,)), ["", (0,)], ("", [0]), ("", (False,)), ("", (True,)), ("", (0, 0)), ("", ()),
                  (0,), ("", (0,), ()), None, ((), ("", (0,)), ()), ("", (1, 0, False)), ("", (1, False, 0)), (None, (0,))]
        self.assertEqual(points_of(program, ("", (0,))), [0])
        for thing in others + [thing for thing in samples.ODDITIES if thing != ("", (0,))]:
            self.assertEqual(points_of(program, thing), [])


class Many(unittest.TestCase):
    def test_up_to_a_hundred_points(self):
        program = Program(SHEET, (U,) * 99)
        self.assertEqual([len(machine_of(program)), len(places_of(program))], [100, 100])
        self.assertEqual(points_of(program, ("", (98,))), [98])

    def test_more_than_a_hundred_points(self):
        program = Program(SHEET, (U,) * 100, {"n": (U,)})
        self.assertEqual(raised(machine_of, program), (TooMany, {"most": 100}))
        self.assertEqual(raised(places_of, program), (TooMany, {"most": 100}))
        for address in (("", (0,)), ("n", (0,))):
            self.assertEqual(raised(points_of, program, address), (TooMany, {"most": 100}))
        for thing in (None, ("", (100,)), ("x", (0,)), ("", (False,))):
            self.assertEqual(points_of(program, thing), [])

    def test_many_calls(self):
        procedures = {"a": (("call", "b"),) * 5, "b": (("call", "n"),) * 5, "n": (U,)}
        self.assertEqual(len(machine_of(Program(SHEET, (("call", "a"),) * 3, procedures))), 76)
        self.assertEqual(raised(machine_of, Program(SHEET, (("call", "a"),) * 4, procedures)), (TooMany, {"most": 100}))
        procedures["n"] = ()
        self.assertEqual(machine_of(Program(SHEET, (("call", "a"),) * 4, procedures)).points(), [END])


class New(unittest.TestCase):
    def test_what_is_returned_is_new(self):
        program = Program(SHEET, (U,))
        for ask in (places_of, lambda program: points_of(program, ("", (0,))), lambda program: machine_of(program).points()):
            before = ask(program)
            ask(program).append("x")
            self.assertEqual(ask(program), before)

    def test_facts_are_put_aside(self):
        facts = [("never", (("p", True),)), ("after", "s", "bad", "q", True), ("after", "s", "bad", "q", False)]
        rows = (("if", "p", (U,), (("do", "s", (("bad", (V,)),)),)),)
        told = machine_of(Program(SHEET, rows)).points()
        sheet = Sheet(SHEET.cells(), SHEET.asks(), SHEET.steps(), facts)
        self.assertEqual(machine_of(Program(sheet, rows)).points(), told)
        self.assertTrue(machine_of(Program(sheet, rows)).sheet == sheet)


def run_of(machine, told_places, world, state, most):
    """What a machine does in a world, with the places, and its last point: None if there are more steps."""
    events, point, points, names = [], 0, machine.points(), machine.sheet.names()
    while len(events) < most:
        row = points[point]
        if row[0] in ("out", "round"):
            return events, row
        if row[0] == "do":
            outcome, state = world.lead(state, row[1])
            events.append(("do", told_places[point], (row[1], outcome, world.answers(state))))
            point = dict(row[2])[outcome]
        elif row[0] == "ask":
            truth = world.answers(state)[names.index(row[1])]
            events.append(("ask", told_places[point], truth))
            point = row[2] if truth else row[3]
        else:
            events.append(("mark", told_places[point], row[1]))
            point = row[2]
    return events, None


class Runs(unittest.TestCase):
    def test_programs_and_their_machines_run_alike(self):
        ends = {}
        for seed in range(200):
            luck = samples.dice(seed)
            sheet = samples.random_sheet(luck, 2, 2)
            program = samples.random_program(luck, sheet)
            told = raised(machine_of, program)
            if told[0] is TooMany:
                continue
            machine, told_places = told[1], places_of(program)
            self.check_places(program, machine, told_places)
            some = all_answers(sheet) * 2
            for _ in range(3):
                # facts are put aside, so any world will do
                states = [(answers, samples.random_leads(luck, sheet, some, range(len(some)))) for answers in some]
                world = World(sheet, states)
                for state in range(len(some)):
                    events, end = oracle.Rows(program, world, state, 50).run()
                    events = [event for event in events if event[0] != "lost"]
                    seen, last = run_of(machine, told_places, world, state, len(events) + 1)
                    self.assertEqual(forms(seen[:len(events)]), forms(events))
                    if end is not None:
                        self.assertEqual((len(seen), last), (len(events), ROUND if end == ROUND else ("out", end)))
                    ends[end and end[0]] = ends.get(end and end[0], 0) + 1
        self.assertEqual(sorted(ends, key=str), [None, "end", "raise", "round", "stop"])
        self.assertGreater(min(ends.values()), 50)

    def check_places(self, program, machine, told_places):
        self.assertTrue(Machine(machine.sheet, machine.points()) == machine)
        inner = [place for place in told_places if place is not None]
        self.assertEqual(len(inner), len(set(inner)))
        kinds = {"do": "do", "if": "ask", "mark": "mark"}
        for point, place in zip(machine.points(), told_places):
            if place is None:
                self.assertIn(point[0], ("out", "round"))
            else:
                row = program.row_at(place[1])
                self.assertEqual((kinds[row[0]], row[1]), point[:2])
        for address in program.addresses():
            some = [at for at, place in enumerate(told_places) if place is not None and place[1] == address]
            self.assertEqual(points_of(program, address), some)

    def test_each_point_can_be_come_to_without_facts(self):
        for seed in range(60):
            luck = samples.dice(seed)
            program = samples.small_program(luck, samples.random_sheet(luck, 2, 2))
            machine = machine_of(program)
            bare = Machine(oracle.without_facts(program.sheet), machine.points())
            self.assertEqual(machine_of(Program(bare.sheet, program.rows(), program.procedures())).points(), bare.points())
            self.assertEqual(can_be(bare.sheet), all_answers(bare.sheet))


if __name__ == "__main__":
    unittest.main()
