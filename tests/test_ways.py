import unittest

import oracle
import samples
from checks import forms, raised
from fourfaces.errors import NoTrace
from fourfaces.laying import machine_of, places_of
from fourfaces.machines import Machine
from fourfaces.programs import Program
from fourfaces.sheets import Sheet
from fourfaces.ways import (
    can_never, exit_trace, exits, idle_rows, known_asks, loss_trace, losses, lost_behind, never_trace, reached,
)
from fourfaces.worlds import World, is_trace

SHEET = Sheet(["c"], [("p", ["c"])], [("s", ["c"], ["bad", "ok"])])
NO, YES = (False,), (True,)
END, ROUND = ("out", ("end",)), ("round",)
U, V = ("mark", "u"), ("mark", "v")
DONE = ("do", "s", (("bad", (("raise", "e"),)),))
# the try loses its error if p is answered by yes, since its always leaves the loop
LOSING = (("loop", "l", (("try", (DONE,), (), (("if", "p", (("leave", "l"),), ()),)),)),)
LOSS = (("", (0, 0, 0)), ("raise", "e"), ("leave", "l"))


def program_of(*rows, **procedures):
    return Program(SHEET, rows, procedures)


class Reached(unittest.TestCase):
    def test_begins_and_what_stands_behind_steps(self):
        machine = Machine(SHEET, [("ask", "p", 1, 2), ("do", "s", (("bad", 2), ("ok", 3))), END, ("mark", "u", 0)])
        told = [(0, NO), (0, YES), (2, NO), (2, YES), (3, NO), (3, YES)]
        self.assertEqual(forms(reached(machine)), forms(told))

    def test_facts_count(self):
        sheet = SHEET.with_fact(("after", "s", "bad", "p", True))
        machine = Machine(sheet, [("do", "s", (("bad", 1), ("ok", 2))), END, ROUND])
        self.assertEqual(reached(machine), [(0, NO), (0, YES), (1, YES), (2, NO), (2, YES)])
        sheet = SHEET.with_fact(("never", (("p", True),)))
        self.assertEqual(reached(Machine(sheet, machine.points())), [(0, NO), (1, NO), (2, NO)])

    def test_a_machine_of_one_point(self):
        for point in (END, ROUND, U + (0,)):
            self.assertEqual(reached(Machine(SHEET, [point])), [(0, NO), (0, YES)])
        self.assertEqual(reached(Machine(Sheet([], [], []), [END])), [(0, ())])

    def test_a_step_that_comes_back_to_the_begin(self):
        self.assertEqual(reached(Machine(SHEET, [("do", "s", (("bad", 0), ("ok", 0)))])), [(0, NO), (0, YES)])

    def test_compared_with_the_definition(self):
        for seed in range(120):
            luck = samples.dice(seed)
            sheet = samples.random_sheet(luck)
            machine = samples.random_machine(luck, sheet, 10)
            self.assertEqual(reached(machine), sorted(oracle.levels(oracle.Ground(sheet), machine)))


class Exits(unittest.TestCase):
    def test_the_example(self):
        program = Program(SHEET, LOSING)
        self.assertEqual(exits(machine_of(program)), [("end",), ("raise", "e")])
        self.assertEqual(losses(program), [LOSS])
        self.assertEqual(lost_behind(program, (NO, [("s", "ok", YES)])), [])

    def test_exits_that_no_answers_come_to(self):
        points = [("ask", "p", 1, 2), ("ask", "p", 3, 4), ("ask", "p", 5, 6), END, ("out", ("raise", "e")),
                  ("out", ("stop", "w")), ("out", ("stop", "v"))]
        machine = Machine(SHEET, points)
        self.assertEqual(forms(exits(machine)), forms([("end",), ("stop", "v")]))
        self.assertIs(can_never(machine), False)
        self.assertEqual(exit_trace(machine, ("end",)), (YES, []))
        self.assertEqual(exit_trace(machine, ("stop", "v")), (NO, []))
        for told in [("raise", "e"), ("stop", "w"), ("stop", "x"), ("raise", "v")]:
            self.assertIsNone(exit_trace(machine, told))
        self.assertIsNone(never_trace(machine))

    def test_facts_count(self):
        points = [("do", "s", (("bad", 1), ("ok", 2))), ("ask", "p", 3, 4), END, ("out", ("raise", "e")), ROUND]
        machine = Machine(SHEET, points)
        self.assertEqual([exits(machine), can_never(machine)], [[("end",), ("raise", "e")], True])
        machine = Machine(SHEET.with_fact(("after", "s", "bad", "p", True)), points)
        self.assertEqual([exits(machine), can_never(machine)], [[("end",), ("raise", "e")], False])
        machine = Machine(SHEET.with_fact(("after", "s", "bad", "p", False)), points)
        self.assertEqual([exits(machine), can_never(machine)], [[("end",)], True])

    def test_no_exits(self):
        machine = Machine(SHEET, [("do", "s", (("bad", 0), ("ok", 0)))])
        self.assertEqual([exits(machine), can_never(machine), never_trace(machine)], [[], False, None])
        self.assertIsNone(exit_trace(machine, ("end",)))

    def test_never(self):
        for points in [[ROUND], [U + (0,)], [("ask", "p", 0, 0)], [("mark", "u", 1), ("mark", "v", 0)]]:
            machine = Machine(SHEET, points)
            self.assertEqual([exits(machine), can_never(machine)], [[], True])
            self.assertEqual(never_trace(machine)[1], [])
            self.assertTrue(machine.goes_along(never_trace(machine)))

    def test_traces_are_as_short_as_possible(self):
        points = [("do", "s", (("bad", 1), ("ok", 2))), ("do", "s", (("bad", 2), ("ok", 2))), ("ask", "p", 3, 4), END, ROUND]
        machine = Machine(SHEET, points)
        told = exit_trace(machine, ("end",))
        self.assertEqual((len(told[1]), machine.shows(told)), (1, END))
        told = never_trace(machine)
        self.assertEqual((len(told[1]), machine.shows(told)), (1, ("never",)))

    def test_compared_with_the_definition(self):
        for seed in range(120):
            luck = samples.dice(seed)
            sheet = samples.random_sheet(luck)
            machine, ground = samples.random_machine(luck, sheet, 10), oracle.Ground(sheet)
            best = {}
            for (point, answers), many in oracle.levels(ground, machine).items():
                move = oracle.move(machine, point, answers)
                if move[0] != "do":
                    best[move] = min(many, best.get(move, many))
            self.assertEqual(exits(machine), sorted(move[1] for move in best if move[0] == "out"))
            self.assertIs(can_never(machine), ("never",) in best)
            for told in [("end",), ("raise", "e"), ("stop", "w"), ("stop", "x")]:
                self.check_trace(machine, exit_trace(machine, told), ("out", told), best)
            self.check_trace(machine, never_trace(machine), ("never",), best)

    def check_trace(self, machine, trace, shown, best):
        if shown not in best:
            self.assertIsNone(trace)
            return
        self.assertIs(is_trace(machine.sheet, trace), True)
        self.assertIs(type(trace[1]), list)
        self.assertEqual((machine.shows(trace), len(trace[1])), (shown, best[shown]))


class Losses(unittest.TestCase):
    def test_behind_a_turn(self):
        program = Program(SHEET, LOSING)
        told = [((NO, []), []), ((YES, []), []), ((NO, [("s", "bad", YES)]), [LOSS]), ((YES, (("s", "bad", YES),)), [LOSS]),
                ((NO, [("s", "bad", NO)]), []), ((NO, [("s", "ok", YES)]), []), ((NO, [("s", "ok", NO)]), []),
                ((NO, [("s", "ok", NO), ("s", "bad", YES)]), [LOSS])]
        for trace, lost in told:
            self.assertEqual(forms(lost_behind(program, trace)), forms(lost))
        trace = loss_trace(program, LOSS)
        self.assertEqual([len(trace[1]), lost_behind(program, trace)], [1, [LOSS]])

    def test_where_it_goes_along_no_trace(self):
        program = Program(SHEET, LOSING)
        told = [((NO, [("s", "no", NO)]), 1), ((NO, [("s", "bad", YES), ("s", "ok", NO)]), 2), (((1,), []), 0),
                ((NO, [("s", "ok", NO), ("s", "bad", NO), ("s", "ok", NO)]), 3), (((True, True), []), 0)]
        for trace, at in told:
            self.assertEqual(raised(lost_behind, program, trace), (NoTrace, {"at": at}))

    def test_at_the_begin(self):
        program = program_of(("try", (("raise", "e"),), (), (("raise", "f"),)))
        loss = (("", (0,)), ("raise", "e"), ("raise", "f"))
        self.assertEqual([losses(program), lost_behind(program, (NO, []))], [[loss], [loss]])
        self.assertEqual(loss_trace(program, loss)[1], [])
        self.assertIs(is_trace(SHEET, loss_trace(program, loss)), True)

    def test_a_way_that_waits_and_is_not_lost(self):
        for row in [("raise", "e"), ("stop", "w")]:
            program = program_of(("try", (row,), (), (U, ("block", "k", (("leave", "k"),)))))
            self.assertEqual([losses(program), lost_behind(program, (YES, []))], [[], []])
        program = program_of(("try", (U,), (), (("raise", "e"),)))
        self.assertEqual([losses(program), lost_behind(program, (NO, []))], [[], []])

    def test_the_same_way_is_lost_too(self):
        program = program_of(("try", (("raise", "e"),), (), (("raise", "e"),)))
        self.assertEqual(losses(program), [(("", (0,)), ("raise", "e"), ("raise", "e"))])

    def test_what_a_catch_raises_is_lost(self):
        program = program_of(("try", (("raise", "e"),), ((("e",), (("raise", "f"),)),), (("stop", "w"),)))
        self.assertEqual(losses(program), [(("", (0,)), ("raise", "f"), ("stop", "w"))])
        program = program_of(("try", (("raise", "e"),), ((("e",), ()),), (("stop", "w"),)))
        self.assertEqual(losses(program), [])

    def test_several_in_order(self):
        inner = ("try", (("stop", "w"),), (), (("raise", "f"),))
        program = program_of(("try", (("try", (("raise", "e"),), (), (inner,)),), (), (("stop", "v"),)))
        told = [(("", (0, 0, 0, 1, 0)), ("stop", "w"), ("raise", "f")), (("", (0, 0, 0)), ("raise", "e"), ("raise", "f")),
                (("", (0,)), ("raise", "f"), ("stop", "v"))]
        self.assertEqual(lost_behind(program, (NO, [])), told)
        self.assertEqual(losses(program), sorted(told))

    def test_each_time_that_it_comes(self):
        once = ("block", "k", (("try", (("raise", "e"),), (), (("leave", "k"),)),))
        program = program_of(("call", "n"), ("call", "n"), U, ("call", "n"), DONE, n=(once,))
        loss = (("n", (0, 0, 0)), ("raise", "e"), ("leave", "k"))
        self.assertEqual(lost_behind(program, (NO, [])), [loss] * 3)
        self.assertEqual(lost_behind(program, (NO, [("s", "ok", NO)])), [])
        self.assertEqual(losses(program), [loss])

    def test_leave_and_again_can_be_lost(self):
        program = program_of(("loop", "l", (("try", (("again", "l"),), (), (("leave", "l"),)),)))
        self.assertEqual(losses(program), [(("", (0, 0, 0)), ("again", "l"), ("leave", "l"))])

    def test_going_round_in_silence(self):
        # the loop is begun anew with nothing between: its second round is not gone any more
        rows = ("loop", "l", (("try", (("raise", "e"),), (), (("again", "l"),)),))
        loss = (("", (0, 0, 0)), ("raise", "e"), ("again", "l"))
        self.assertEqual(lost_behind(program_of(rows), (NO, [])), [loss])
        self.assertEqual(losses(program_of(rows)), [loss])
        program = program_of(DONE, rows)
        loss = (("", (1, 0, 0)), ("raise", "e"), ("again", "l"))
        self.assertEqual([lost_behind(program, (NO, [])), lost_behind(program, (NO, [("s", "ok", NO)]))], [[], [loss]])

    def test_going_round_by_points(self):
        rows = ("loop", "l", (U, ("try", (("raise", "e"),), (), (V, ("again", "l"))), V))
        loss = (("", (0, 0, 1)), ("raise", "e"), ("again", "l"))
        self.assertEqual(lost_behind(program_of(rows), (NO, [])), [loss])

    def test_the_loss_ahead_of_a_point_that_comes_anew(self):
        # U, then a loss, then U anew: the loss comes before that, once
        rows = ("loop", "l", (("block", "k", (("try", (("stop", "w"),), (), (("leave", "k"),)),)), U))
        loss = (("", (0, 0, 0, 0, 0)), ("stop", "w"), ("leave", "k"))
        self.assertEqual(lost_behind(program_of(rows), (NO, [])), [loss, loss])

    def test_a_try_in_a_procedure_is_told_by_its_own_address(self):
        program = program_of(("try", (("call", "n"),), ((("f",), ()),), (("stop", "w"),)), n=(("try", (("stop", "v"),), (), (("raise", "f"),)),))
        self.assertEqual(losses(program), [(("n", (0,)), ("stop", "v"), ("raise", "f"))])
        program = program_of(("try", (("call", "n"),), (), (("stop", "w"),)), n=(("stop", "v"),))
        self.assertEqual(losses(program), [(("", (0,)), ("stop", "v"), ("stop", "w"))])

    def test_losses_that_no_trace_comes_to(self):
        sheet = SHEET.with_fact(("after", "s", "bad", "p", False))
        program = Program(sheet, LOSING)
        self.assertEqual([losses(program), loss_trace(program, LOSS)], [[], None])
        sheet = SHEET.with_fact(("after", "s", "bad", "p", True))
        self.assertEqual(losses(Program(sheet, LOSING)), [LOSS])

    def test_losses_that_are_none(self):
        program = Program(SHEET, LOSING)
        for loss in [(("", (0, 0, 0)), ("raise", "e"), ("on",)), (("", (0, 0, 0)), ("raise", "f"), ("leave", "l")),
                     (("", (0,)), ("raise", "e"), ("leave", "l")), (("", (0, 0, 0)), ("on",), ("leave", "l"))]:
            self.assertIsNone(loss_trace(program, loss))
        self.assertEqual([losses(program_of()), lost_behind(program_of(), (NO, []))], [[], []])

    def test_a_loss_behind_several_turns(self):
        rows = (DONE, ("do", "s", ()), ("do", "s", ())) + LOSING
        loss = (("", (3, 0, 0)), ("raise", "e"), ("leave", "l"))
        trace = loss_trace(program_of(*rows), loss)
        self.assertEqual([len(trace[1]), lost_behind(program_of(*rows), trace)], [4, [loss]])

    def test_compared_with_rows_that_are_done(self):
        seen = 0
        for seed in range(400):
            luck = samples.dice(seed)
            sheet = samples.random_sheet(luck, 2, 2)
            program = samples.small_program(luck, sheet)
            world = self.world_of(luck, sheet)
            for state in range(len(world)):
                events, end = oracle.Rows(program, world, state, 40).run()
                told, trace = self.lost_by_turns(events), (world.answers(state), [event[2] for event in events if event[0] == "do"])
                if end is None:
                    told.pop()
                for many, lost in enumerate(told):
                    self.assertEqual(lost_behind(program, (trace[0], trace[1][:many])), lost)
                    seen += len(lost)
        self.assertGreater(seen, 200)

    def world_of(self, luck, sheet):
        """A world that keeps the sheet, with two states for each answers that can be."""
        ground = oracle.Ground(sheet)
        states, some = [], ground.can * 2
        for answers in some:
            leads = {}
            for step, _, outcomes in sheet.steps():
                leads[step] = luck.choice([(outcome, later) for outcome in outcomes for later in range(len(some))
                                           if some[later] in ground.behind[answers, step, outcome]])
            states.append((answers, leads))
        return World(sheet, states)

    def lost_by_turns(self, events):
        """The losses ahead of the first step, behind it, and so on, each up to a point that comes anew."""
        told, places, again = [[]], [], False
        for event in events:
            if event[0] == "do":
                told.append([])
                places, again = [], False
            elif event[0] == "lost":
                told[-1] += [] if again else [event[1]]
            else:
                again = again or event[1] in places
                places.append(event[1])
        return told

    def test_compared_with_all_short_traces(self):
        seen = 0
        for seed in range(150):
            luck = samples.dice(seed)
            sheet = samples.random_sheet(luck, 1, 2)
            program = samples.small_program(luck, sheet)
            machine, best = machine_of(program), {}
            for trace, _ in oracle.traces(oracle.Ground(sheet), machine, 2):
                for loss in lost_behind(program, trace):
                    best[loss] = min(len(trace[1]), best.get(loss, 99))
            told = losses(program)
            self.assertEqual(told, sorted(set(told)))
            self.assertLessEqual(set(best), set(told))
            for loss in told:
                trace = loss_trace(program, loss)
                self.assertIn(loss, lost_behind(program, trace))
                self.assertEqual(len(trace[1]) if len(trace[1]) < 3 else 99, best.get(loss, 99))
                seen += 1
        self.assertGreater(seen, 30)


class Idle(unittest.TestCase):
    def test_rows_behind_a_way_out(self):
        program = program_of(U, ("if", "p", (("stop", "w"), V), ()), DONE, V, n=(U, ("call", "z")), z=(DONE, ("raise", "e")))
        self.assertEqual(idle_rows(program), [("", (1, 0, 1)), ("n", (0,)), ("z", (0,))])
        self.assertEqual(known_asks(program), [])

    def test_asks_whose_answer_is_known(self):
        inner = ("if", "p", (U,), (V,))
        program = program_of(("if", "p", (inner,), (inner,)), inner)
        self.assertEqual(forms(known_asks(program)), forms([(("", (0, 0, 0)), True), (("", (0, 1, 0)), False)]))
        self.assertEqual(idle_rows(program), [("", (0, 0, 0, 1, 0)), ("", (0, 1, 0, 0, 0))])

    def test_facts_count(self):
        rows = (("do", "s", (("bad", (("if", "p", (U,), (V,)),)),)), ("if", "p", (), (U,)))
        self.assertEqual([idle_rows(Program(SHEET, rows)), known_asks(Program(SHEET, rows))], [[], []])
        program = Program(SHEET.with_fact(("after", "s", "bad", "p", True)), rows)
        self.assertEqual(idle_rows(program), [("", (0, 0, 0, 1, 0))])
        self.assertEqual(known_asks(program), [(("", (0, 0, 0)), True)])
        program = Program(SHEET.with_fact(("never", (("p", True),))), rows)
        self.assertEqual(idle_rows(program), [("", (0, 0, 0, 0, 0))])
        self.assertEqual(known_asks(program), [(("", (0, 0, 0)), False), (("", (1,)), False)])

    def test_an_outcome_that_lets_none(self):
        sheet = SHEET.with_fact(("after", "s", "bad", "p", True)).with_fact(("after", "s", "bad", "p", False))
        program = Program(sheet, (("do", "s", (("bad", (U,)), ("ok", (V,)))),))
        self.assertEqual(idle_rows(program), [("", (0, 0, 0))])

    def test_a_row_with_several_places(self):
        asked = ("if", "p", (U,), (V,))
        program = program_of(("if", "p", (("call", "n"),), (("call", "n"),)), n=(asked,))
        self.assertEqual([idle_rows(program), known_asks(program)], [[], []])
        program = program_of(("if", "p", (("call", "n"),), ()), n=(asked,))
        self.assertEqual([idle_rows(program), known_asks(program)], [[("n", (0, 1, 0))], [(("n", (0,)), True)]])

    def test_an_ask_that_is_not_passed_is_not_known(self):
        program = program_of(("stop", "w"), ("if", "p", (U,), ()))
        self.assertEqual([known_asks(program), idle_rows(program)], [[], [("", (1,)), ("", (1, 0, 0))]])

    def test_only_dos_ifs_and_marks(self):
        program = program_of(("stop", "w"), ("loop", "l", (("leave", "l"), ("again", "l"))), ("try", (("raise", "e"),), (), ()),
                             ("block", "k", (("call", "n"),)), ("do", "s", (("ok", (U,)),)), n=())
        self.assertEqual(idle_rows(program), [("", (4,)), ("", (4, 0, 0))])

    def test_the_last_step_of_a_beginning_is_passed(self):
        self.assertEqual(idle_rows(program_of(DONE)), [])
        self.assertEqual(idle_rows(program_of(("loop", "l", (U,)), V)), [("", (1,))])

    def test_the_empty_program(self):
        self.assertEqual([idle_rows(program_of()), known_asks(program_of())], [[], []])

    def test_compared_with_beginnings(self):
        idle, known = 0, 0
        for seed in range(250):
            luck = samples.dice(seed)
            sheet = samples.random_sheet(luck, 2, 2)
            program = samples.small_program(luck, sheet)
            machine, told_places, passed, truths = machine_of(program), places_of(program), set(), {}
            points = machine.points()
            for point, answers in oracle.levels(oracle.Ground(sheet), machine):
                seen = []
                while point not in seen:
                    seen.append(point)
                    if told_places[point] is not None:
                        passed.add(told_places[point][1])
                    if points[point][0] == "ask":
                        truth = oracle.answer(sheet, answers, points[point][1])
                        truths.setdefault(told_places[point][1], set()).add(truth)
                        point = points[point][2] if truth else points[point][3]
                    elif points[point][0] == "mark":
                        point = points[point][2]
            rows = [address for address in program.addresses() if program.row_at(address)[0] in ("do", "if", "mark")]
            self.assertEqual(idle_rows(program), [address for address in rows if address not in passed])
            told = sorted((address, min(some)) for address, some in truths.items() if len(some) == 1)
            self.assertEqual(forms(known_asks(program)), forms(told))
            idle, known = idle + len(idle_rows(program)), known + len(told)
        self.assertGreater(min(idle, known), 20)


class Sizes(unittest.TestCase):
    def test_a_machine_of_forty_points(self):
        sheet = Sheet(["c"], [("p", ["c"]), ("q", ["c"]), ("r", ["c"])], [("s", ["c"], ["a", "b", "o"])])
        points = [("do", "s", (("a", at + 1), ("b", at), ("o", 0))) for at in range(39)] + [END]
        machine = Machine(sheet, points)
        self.assertEqual([len(reached(machine)), exits(machine), can_never(machine)], [320, [("end",)], False])
        self.assertEqual(len(exit_trace(machine, ("end",))[1]), 39)

    def test_long_traces(self):
        program = Program(SHEET, LOSING)
        turns = [("s", "ok", NO)] * 299 + [("s", "bad", YES)]
        self.assertEqual(lost_behind(program, (NO, turns)), [LOSS])
        turns[298] = ("s", "bad", YES)
        self.assertEqual(raised(lost_behind, program, (NO, turns)), (NoTrace, {"at": 300}))


class New(unittest.TestCase):
    def test_what_is_returned_is_new_and_always_the_same(self):
        program = Program(SHEET, LOSING)
        machine = machine_of(program)
        asks = [lambda: reached(machine), lambda: exits(machine), lambda: losses(program), lambda: idle_rows(program),
                lambda: known_asks(program), lambda: lost_behind(program, (NO, [("s", "bad", YES)])),
                lambda: exit_trace(machine, ("end",))[1], lambda: loss_trace(program, LOSS)[1]]
        before = [ask() for ask in asks]
        for ask in asks:
            ask().append("x")
        self.assertEqual([ask() for ask in asks], before)


if __name__ == "__main__":
    unittest.main()
