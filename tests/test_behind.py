"""What can have run behind a torn log."""

import unittest

import oracle
import samples
import watching
from checks import forms, raised
from fourfaces.behind import (
    can_points, can_rows, count_runs, first_runs, least_run, missed_run, sure_points, sure_rows,
)
from fourfaces.errors import NoRun
from fourfaces.laying import machine_of, places_of
from fourfaces.machines import Machine
from fourfaces.programs import Program
from fourfaces.runs import is_run
from fourfaces.sheets import Sheet
from fourfaces.torn import run_fits

BARE = Sheet([], [("p", [])], [])
SHEET = Sheet(["c"], [("p", ["c"])], [("s", ["c"], ["bad", "ok"])])
END = ("out", ("end",))
BRANCHES = Program(BARE, (("if", "p", (("mark", "a"),), (("mark", "b"),)), ("mark", "c")))
FORK = machine_of(BRANCHES)
WATCH = ("a", "b", "c")
NONE = (NoRun, {})


def random_torn(luck, watch):
    torn = [luck.choice(list(watch) + ["?"]) for _ in range(luck.randint(0, 3))]
    for _ in range(luck.choice([0, 1, 1, 2])):
        torn.insert(luck.randint(0, len(torn)), "*")
    return torn


def order(run):
    return (len(run), run)


class Examples(unittest.TestCase):
    def test_the_example(self):
        told = [count_runs(FORK, WATCH, ["?", "c"]), least_run(FORK, WATCH, ["?", "c"]), sure_points(FORK, WATCH, ["*"]),
                can_points(FORK, WATCH, ["a", "*"])]
        self.assertEqual(forms(told), forms([2, [0, 1, 3, 4], [0, 3, 4], [0, 1, 3, 4]]))

    def test_nothing_fits(self):
        for torn in ([], ["c"], ["a", "b"], ["?", "?", "?"], ["*", "a", "*", "b", "*"]):
            self.assertEqual([count_runs(FORK, WATCH, torn), first_runs(FORK, WATCH, torn, 60), missed_run(FORK, WATCH, torn, 1)], [0, [], None])
            for ask in (least_run, sure_points, can_points):
                self.assertEqual(raised(ask, FORK, WATCH, torn), NONE)
            for ask in (sure_rows, can_rows):
                self.assertEqual(raised(ask, BRANCHES, WATCH, torn), NONE)

    def test_everything_fits(self):
        for torn in (["*"], ("*", "*"), ["?", "*"], ["*", "c"]):
            self.assertEqual(count_runs(FORK, WATCH, torn), 2)
            self.assertEqual(first_runs(FORK, WATCH, torn, 60), [[0, 1, 3, 4], [0, 2, 3, 4]])
            self.assertEqual([sure_points(FORK, WATCH, torn), can_points(FORK, WATCH, torn)], [[0, 3, 4], [0, 1, 2, 3, 4]])
            self.assertEqual(sure_rows(BRANCHES, WATCH, torn), [("", (0,)), ("", (1,))])
            self.assertEqual(can_rows(BRANCHES, WATCH, torn), [("", (0,)), ("", (0, 0, 0)), ("", (0, 1, 0)), ("", (1,))])
        self.assertEqual([missed_run(FORK, WATCH, ["*"], point) for point in range(5)], [None, [0, 2, 3, 4], [0, 1, 3, 4], None, None])

    def test_no_words(self):
        self.assertEqual([count_runs(FORK, (), []), count_runs(FORK, (), ["*"]), count_runs(FORK, (), ["?"])], [2, 2, 0])
        self.assertEqual([count_runs(FORK, ("x",), []), count_runs(FORK, ("x",), ["x"])], [2, 0])

    def test_machines_of_one_point(self):
        out = Machine(SHEET, [END])
        for torn in ([], ["*"]):
            self.assertEqual([count_runs(out, WATCH, torn), least_run(out, WATCH, torn), first_runs(out, WATCH, torn, 5)], [1, [0], [[0]]])
            self.assertEqual([sure_points(out, WATCH, torn), can_points(out, WATCH, torn), missed_run(out, WATCH, torn, 0)], [[0], [0], None])
        self.assertEqual(count_runs(out, WATCH, ["?"]), 0)
        for point in (("round",), ("mark", "a", 0), ("do", "s", (("bad", 0), ("ok", 0)))):
            machine = Machine(SHEET, [point])
            self.assertEqual([count_runs(machine, WATCH, ["*"]), first_runs(machine, WATCH, ["*"], 60)], [0, []])
            self.assertEqual(raised(least_run, machine, WATCH, ["*"]), NONE)

    def test_endlessly_many(self):
        machine = Machine(SHEET, [("do", "s", (("bad", 1), ("ok", 2))), ("mark", "a", 0), END])
        self.assertIsNone(count_runs(machine, WATCH, ["*"]))
        self.assertIsNone(count_runs(machine, (), []))
        self.assertEqual([count_runs(machine, WATCH, []), count_runs(machine, WATCH, ["?"] * 10), count_runs(machine, WATCH, ["b"])], [1, 1, 0])
        self.assertEqual(least_run(machine, WATCH, ["a", "a"]), [0, 1, 0, 1, 0, 2])
        self.assertEqual(least_run(machine, WATCH, ["?", "*", "?", "*"]), [0, 1, 0, 1, 0, 2])
        told = first_runs(machine, WATCH, ["*"], 60)
        self.assertEqual([len(told), told[0], told[59]], [60, [0, 2], [0, 1] * 59 + [0, 2]])
        self.assertEqual(first_runs(machine, WATCH, ["*"], 0), [])
        self.assertEqual([sure_points(machine, WATCH, ["*"]), sure_points(machine, WATCH, ["*", "?"])], [[0, 2], [0, 1, 2]])
        self.assertEqual([missed_run(machine, WATCH, ["*"], 1), missed_run(machine, WATCH, ["?", "*"], 1)], [[0, 2], None])

    def test_rounds_that_need_not_be_gone_do_not_make_endlessly_many(self):
        points = [("do", "s", (("bad", 1), ("ok", 2))), ("do", "s", (("bad", 1), ("ok", 1))), END]
        self.assertEqual([count_runs(Machine(SHEET, points), WATCH, ["*"]), count_runs(Machine(SHEET, points), WATCH, [])], [1, 1])

    def test_a_silent_round(self):
        points = [("do", "s", (("bad", 0), ("ok", 1))), ("mark", "a", 2), END]
        machine = Machine(SHEET, points)
        self.assertIsNone(count_runs(machine, WATCH, ["a"]))
        self.assertEqual(count_runs(machine, WATCH, []), 0)
        self.assertEqual(first_runs(machine, WATCH, ["?"], 3), [[0, 1, 2], [0, 0, 1, 2], [0, 0, 0, 1, 2]])

    def test_an_ask_or_a_step_is_no_word(self):
        machine = Machine(SHEET, [("ask", "p", 1, 1), ("do", "s", (("bad", 2), ("ok", 2))), ("mark", "s", 3), END])
        self.assertEqual([count_runs(machine, ("p", "s"), ["s"]), count_runs(machine, ("p", "s"), ["p", "s"])], [1, 0])

    def test_rows_in_several_places(self):
        """A row is sure if each run passes it in some place, whichever."""
        rows = (("try", (("if", "p", (("raise", "e"),), ()),), (), (("mark", "w"),)),)
        program = Program(BARE, rows)
        machine = machine_of(program)
        self.assertEqual(machine.marks(), ["w"])
        self.assertEqual(len([place for place in places_of(program) if place and place[1] == ("", (0, 1, 0))]), 2)
        self.assertEqual(sure_rows(program, ("w",), ["*"]), [("", (0, 0, 0)), ("", (0, 1, 0))])
        self.assertEqual(sure_points(machine, ("w",), ["*"]), [0])
        called = Program(BARE, (("if", "p", (("call", "n"), ("mark", "a")), (("call", "n"),)),), {"n": (("mark", "w"),)})
        self.assertEqual(sure_rows(called, ("a", "w"), ["w", "*"]), [("", (0,)), ("n", (0,))])
        self.assertEqual(can_rows(called, ("a", "w"), ["w", "*"]), [("", (0,)), ("", (0, 0, 1)), ("n", (0,))])
        self.assertEqual(can_rows(called, ("a", "w"), ["w"]), [("", (0,)), ("n", (0,))])
        self.assertEqual(sure_rows(called, ("a", "w"), ["w", "a"]), [("", (0,)), ("", (0, 0, 1)), ("n", (0,))])

    def test_a_program_without_rows(self):
        program = Program(BARE, ())
        self.assertEqual([sure_rows(program, WATCH, []), can_rows(program, WATCH, ["*"])], [[], []])
        self.assertEqual(raised(sure_rows, program, WATCH, ["?"]), NONE)

    def test_what_is_told_is_new(self):
        for ask in (least_run, sure_points, can_points):
            ask(FORK, WATCH, ["*"]).clear()
        for some in first_runs(FORK, WATCH, ["*"], 5):
            some.clear()
        torn = ["*"]
        sure_rows(BRANCHES, WATCH, torn).clear()
        missed_run(FORK, WATCH, torn, 1).clear()
        self.assertEqual([least_run(FORK, WATCH, torn), sure_points(FORK, WATCH, torn), torn], [[0, 1, 3, 4], [0, 3, 4], ["*"]])


class Compared(unittest.TestCase):
    def check_fits(self, machine, watch, torn, run):
        self.assertIs(is_run(machine, run), True)
        self.assertIs(run_fits(machine, watch, torn, run), True)

    def test_forward(self):
        """All runs are known, so all that is told is compared with them."""
        seen = set()
        for seed in range(250):
            luck = samples.dice(seed)
            sheet = samples.random_sheet(luck, 2, 2)
            machine = samples.lively_machine(luck, sheet, luck.choice([4, 6, 9]), True)
            runs = watching.runs(oracle.Ground(sheet), machine, len(machine))
            watch = luck.choice([(), ("u",), ("u", "v"), ("u", "v", "w")])
            torn = random_torn(luck, watch)
            fit = [run for run in runs if watching.fits(torn, watching.log(machine, watch, run))]
            self.assertEqual(count_runs(machine, watch, torn), len(fit))
            for many in (0, 1, 3, 60):
                self.assertEqual(first_runs(machine, watch, torn, many), fit[:many])
            if not fit:
                self.assertEqual(raised(least_run, machine, watch, torn), NONE)
            else:
                self.assertEqual(least_run(machine, watch, torn), fit[0])
                sure = set.intersection(*map(set, fit))
                self.assertEqual(sure_points(machine, watch, torn), sorted(sure))
                self.assertEqual(can_points(machine, watch, torn), sorted(set().union(*fit)))
            for point in range(len(machine)):
                without = [run for run in fit if point not in run]
                told = missed_run(machine, watch, torn, point)
                self.assertIs(told is None, not without)
                if without:
                    self.assertIn(told, without)
                    self.assertEqual(len(told), len(without[0]))
            seen.add(min(len(fit), 2))
        self.assertEqual(seen, {0, 1, 2})

    def test_rounds(self):
        counted = set()
        for seed in range(250):
            luck = samples.dice(seed)
            sheet = samples.random_sheet(luck, 2, 2)
            machine = samples.lively_machine(luck, sheet, luck.choice([3, 4, 6]))
            runs = watching.runs(oracle.Ground(sheet), machine, 8)
            watch = luck.choice([(), ("u",), ("u", "v"), ("u", "v", "w")])
            torn = random_torn(luck, watch)
            fit = [run for run in runs if watching.fits(torn, watching.log(machine, watch, run))]
            many, told = count_runs(machine, watch, torn), first_runs(machine, watch, torn, 60)
            self.assertEqual([run for run in told if len(run) <= 8], fit[:60])
            self.assertEqual(len(told), 60 if many is None else min(many, 60))
            self.assertEqual(told, sorted(told, key=order))
            self.assertEqual(len({tuple(run) for run in told}), len(told))
            for run in told[:5] + told[-5:]:
                self.check_fits(machine, watch, torn, run)
            counted.add(many if many is None else min(many, 1))
            if told:
                self.assertEqual(least_run(machine, watch, torn), told[0])
                sure, can = sure_points(machine, watch, torn), can_points(machine, watch, torn)
                self.assertLessEqual(set(sure), set.intersection(*map(set, told)))
                self.assertGreaterEqual(set(can), set().union(*told))
                for point in range(len(machine)):
                    run = missed_run(machine, watch, torn, point)
                    self.assertIs(run is None, point in sure)
                    if run is not None:
                        self.check_fits(machine, watch, torn, run)
                        self.assertNotIn(point, run)
                        self.assertLessEqual([len(run)], [len(other) for other in told if point not in other][:1] or [len(run)])
        self.assertEqual(counted, {None, 0, 1})

    def test_rows(self):
        compared = 0
        for seed in range(200):
            luck = samples.dice(seed)
            program = samples.small_program(luck, samples.random_sheet(luck, 2, 2))
            machine, places = machine_of(program), places_of(program)
            watch = luck.choice([(), ("u",), ("u", "v", "w")])
            torn = random_torn(luck, watch)
            many = count_runs(machine, watch, torn)
            if many == 0:
                self.assertEqual([raised(sure_rows, program, watch, torn), raised(can_rows, program, watch, torn)], [NONE, NONE])
            elif many is not None and many <= 60:
                had = []
                for run in first_runs(machine, watch, torn, 60):
                    had.append({places[point][1] for point in run if places[point] is not None})
                self.assertEqual(sure_rows(program, watch, torn), sorted(set.intersection(*had)))
                self.assertEqual(can_rows(program, watch, torn), sorted(set().union(*had)))
                compared += 1
        self.assertGreater(compared, 30)

    def test_forty_points(self):
        points = [("mark", "abcdef"[at % 6], at + 1) for at in range(38)] + [("do", "s", (("bad", 0), ("ok", 39))), END]
        machine = Machine(SHEET, points)
        told = first_runs(machine, tuple("abcdef"), ["*", "b", "?", "*"], 60)
        self.assertEqual([len(told), len(told[0]), len(told[59])], [60, 40, 40 + 59 * 39])


if __name__ == "__main__":
    unittest.main()
