"""Runs, beginnings, nodes and logs."""

import unittest

import oracle
import samples
import watching
from checks import forms, raised
from fourfaces.errors import TooMany
from fourfaces.laying import machine_of
from fourfaces.machines import Machine
from fourfaces.programs import Program
from fourfaces.runs import is_beginning, is_run, log, next_nodes, node_of, nodes, run_count, runs
from fourfaces.sheets import Sheet

BARE = Sheet([], [("p", [])], [])
SHEET = Sheet(["c"], [("p", ["c"])], [("s", ["c"], ["bad", "ok"])])
NO, YES = (False,), (True,)
END = ("out", ("end",))
FORK = machine_of(Program(BARE, (("if", "p", (("mark", "a"),), (("mark", "b"),)), ("mark", "c"))))


def machines(many, sizes=(2, 4, 7), forward=False, asks=2):
    for seed in range(many):
        luck = samples.dice(seed)
        sheet = samples.random_sheet(luck, asks, 2)
        if forward or seed % 3:
            machine = samples.lively_machine(luck, sheet, luck.choice(sizes), forward)
        else:
            machine = samples.random_machine(luck, sheet, luck.choice(sizes))
        yield luck, oracle.Ground(sheet), machine


class Examples(unittest.TestCase):
    def test_the_example(self):
        self.assertEqual(forms(runs(FORK, 9)), forms([[0, 1, 3, 4], [0, 2, 3, 4]]))
        self.assertEqual(forms(run_count(FORK)), forms(2))
        told = [log(FORK, ("a", "c"), [0, 1, 3, 4]), log(FORK, ("a", "c"), [0, 1, 3])]
        self.assertEqual(forms(told), forms([["a", "c"], ["a"]]))
        self.assertEqual(len(nodes(FORK)), 7)
        self.assertEqual(forms(nodes(FORK)[:2]), forms([(0, (NO, YES)), (1, (YES,))]))

    def test_asks_that_are_answered_alike(self):
        # the cell of the ask is not put between, so the second ask is answered like the first one
        points = [("ask", "p", 1, 2), ("mark", "a", 3), ("mark", "b", 3), ("ask", "p", 4, 5), END, ("out", ("stop", "w"))]
        machine = Machine(BARE, points)
        self.assertEqual(runs(machine, 9), [[0, 1, 3, 4], [0, 2, 3, 5]])
        for wrong in ([0, 1, 3, 5], [0, 2, 3, 4]):
            self.assertIs(is_run(machine, wrong), False)
            self.assertIs(is_beginning(machine, wrong), False)
        self.assertEqual(node_of(machine, [0, 1, 3]), (3, (YES,)))
        self.assertEqual(next_nodes(machine, (3, (NO, YES))), [(4, (YES,)), (5, (NO,))])

    def test_facts_count(self):
        sheet = SHEET.with_fact(("after", "s", "bad", "p", True))
        machine = Machine(sheet, [("do", "s", (("bad", 1), ("ok", 1))), ("ask", "p", 2, 3), END, ("mark", "a", 2)])
        self.assertEqual(next_nodes(machine, (0, (NO, YES))), [(1, (NO, YES))])
        only = Machine(sheet, [("do", "s", (("bad", 1), ("ok", 0))), ("ask", "p", 2, 3), END, ("mark", "a", 2)])
        self.assertEqual(node_of(only, [0, 1]), (1, (YES,)))
        self.assertIs(is_beginning(only, [0, 1, 3]), False)
        self.assertIs(is_beginning(only, [0, 0, 0, 1, 2]), True)
        none = Machine(sheet.with_fact(("never", (("p", True),))), only.points())
        self.assertIs(is_beginning(none, [0, 1]), False)
        self.assertEqual([runs(none, 30), run_count(none), nodes(none)], [[], 0, [(0, (NO,))]])

    def test_both_goals_alike(self):
        machine = Machine(SHEET, [("ask", "p", 1, 1), ("do", "s", (("bad", 2), ("ok", 2))), END])
        self.assertEqual(nodes(machine), [(0, (NO, YES)), (1, (NO, YES)), (2, (NO, YES))])
        self.assertEqual([runs(machine, 3), runs(machine, 2), run_count(machine)], [[[0, 1, 2]], [], 1])

    def test_machines_of_one_point(self):
        out = Machine(SHEET, [END])
        self.assertEqual([runs(out, 1), run_count(out), nodes(out)], [[[0]], 1, [(0, (NO, YES))]])
        self.assertEqual([is_run(out, [0]), is_beginning(out, [0]), is_beginning(out, [0, 0])], [True, True, False])
        self.assertEqual([next_nodes(out, (0, (NO, YES))), log(out, ("a",), [0])], [[], []])
        for point in (("round",), ("mark", "a", 0), ("ask", "p", 0, 0)):
            machine = Machine(SHEET, [point])
            self.assertEqual([runs(machine, 30), run_count(machine), nodes(machine)], [[], 0, [(0, (NO, YES))]])
            self.assertEqual([is_run(machine, [0]), is_beginning(machine, [0]), is_beginning(machine, [0] * 5)], [False, True, True])
            self.assertEqual(next_nodes(machine, (0, (NO, YES))), [(0, (NO, YES))])
        self.assertEqual(log(Machine(SHEET, [("mark", "a", 0)]), ("a",), [0, 0, 0]), ["a", "a"])
        self.assertEqual(log(Machine(SHEET, [("mark", "a", 0)]), (), [0, 0, 0]), [])

    def test_endlessly_many(self):
        machine = Machine(SHEET, [("do", "s", (("bad", 0), ("ok", 1))), END])
        self.assertIsNone(run_count(machine))
        self.assertEqual(runs(machine, 4), [[0, 1], [0, 0, 1], [0, 0, 0, 1]])
        self.assertEqual(len(runs(machine, 30)), 29)

    def test_rounds_from_which_no_run_leads_do_not_count(self):
        machine = Machine(SHEET, [("do", "s", (("bad", 1), ("ok", 2))), ("mark", "a", 1), END])
        self.assertEqual([run_count(machine), runs(machine, 30)], [1, [[0, 2]]])

    def test_too_many(self):
        points = []
        for at in range(11):
            points += [("do", "s", (("bad", 3 * at + 1), ("ok", 3 * at + 2)))]
            points += [("mark", "a", 3 * at + 3), ("mark", "b", 3 * at + 3)]
        machine = Machine(SHEET, points + [END])
        self.assertEqual(run_count(machine), 2048)
        self.assertEqual(raised(runs, machine, 23), (TooMany, {"most": 2000}))
        self.assertEqual(raised(runs, machine, 30), (TooMany, {"most": 2000}))
        self.assertEqual(runs(machine, 22), [])
        less = Machine(SHEET, points[:30] + [("mark", "c", 31), END])
        self.assertEqual([run_count(less), len(runs(less, 22)), runs(less, 21)], [1024, 1024, []])

    def test_just_two_thousand(self):
        # 16 * 125 runs of the same length
        sheet = Sheet([], [], [("s", [], ["a", "b"]), ("t", [], ["a", "b", "c", "d", "e"])])
        points, at = [], 0
        for step, many in [("s", 2)] * 4 + [("t", 5)] * 3:
            points.append(("do", step, tuple(("abcde"[k], at + 1 + k) for k in range(many))))
            points += [("mark", "m", at + 1 + many) for _ in range(many)]
            at += 1 + many
        machine = Machine(sheet, points + [END])
        self.assertEqual([run_count(machine), len(runs(machine, 30))], [2000, 2000])
        more = Machine.made(sheet, points + [END, ("do", "s", (("a", 0), ("b", at)))], at + 1)
        self.assertEqual([run_count(more), raised(runs, more, 30)], [2001, (TooMany, {"most": 2000})])
        self.assertEqual(runs(more, 15), [[0, 2]])

    def test_huge_counts(self):
        points = []
        for at in range(13):
            points += [("do", "s", (("bad", 3 * at + 1), ("ok", 3 * at + 2)))]
            points += [("mark", "a", 3 * at + 3), ("mark", "b", 3 * at + 3)]
        self.assertEqual(run_count(Machine(SHEET, points + [END])), 2 ** 13)


class Forms(unittest.TestCase):
    def test_what_is_no_beginning(self):
        wrong = [[], (0,), (0, 1, 3, 4), [1], [0, 3], [0, 1, 4], [0, 1, 3, 4, 4], [False], [0, True, 3, 4], [0, 1, 3, "4"],
                 [0, 5], [0, -1], [0, None], [[0]], [0, (1,)], {0: 1}, [0, 0], [0, 1, 2]]
        for thing in wrong + [thing for thing in samples.ODDITIES if thing != [0]]:
            self.assertIs(is_beginning(FORK, thing), False)
            self.assertIs(is_run(FORK, thing), False)
        for right in ([0], [0, 1], [0, 2], [0, 1, 3]):
            self.assertIs(is_beginning(FORK, right), True)
            self.assertIs(is_run(FORK, right), False)
        for right in ([0, 1, 3, 4], [0, 2, 3, 4]):
            self.assertIs(is_beginning(FORK, right), True)
            self.assertIs(is_run(FORK, right), True)
        for thing in samples.twisted([0, 1, 3, 4]):
            self.assertIs(is_run(FORK, thing), forms(thing) in [forms([0, 1, 3, 4]), forms([0, 2, 3, 4])])

    def test_an_ask_or_a_step_is_no_word(self):
        machine = Machine(SHEET, [("ask", "p", 1, 1), ("do", "s", (("bad", 2), ("ok", 2))), ("mark", "s", 3), ("mark", "p", 4), END])
        self.assertEqual(log(machine, ("p", "s"), [0, 1, 2, 3, 4]), ["s", "p"])
        self.assertEqual(log(machine, ("p",), [0, 1, 2, 3, 4]), ["p"])
        self.assertEqual(log(machine, ("p", "s"), [0, 1]), [])

    def test_what_is_told_is_new(self):
        for some in runs(FORK, 9):
            some.clear()
        nodes(FORK).clear()
        next_nodes(FORK, (0, (NO, YES))).clear()
        points = [0, 1, 3, 4]
        log(FORK, ("a",), points).clear()
        self.assertEqual([runs(FORK, 9)[0], len(nodes(FORK)), points], [[0, 1, 3, 4], 7, [0, 1, 3, 4]])
        self.assertEqual(next_nodes(FORK, (0, (NO, YES))), [(1, (YES,)), (2, (NO,))])


class Compared(unittest.TestCase):
    def test_beginnings_and_nodes(self):
        for luck, ground, machine in machines(120):
            some = watching.beginnings(ground, machine, 6)
            told = nodes(machine)
            self.assertEqual(told, sorted(set(told)))
            for points, answers in some.items():
                node = (points[-1], tuple(sorted(answers)))
                self.assertIs(is_beginning(machine, list(points)), True)
                self.assertIs(is_run(machine, list(points)), watching.is_run(machine, points))
                self.assertEqual(forms(node_of(machine, list(points))), forms(node))
                self.assertIn(node, told)
                if len(points) < 6:
                    later = [(more, lot) for more, lot in some.items() if more[:-1] == points]
                    wanted = sorted((more[-1], tuple(sorted(lot))) for more, lot in later)
                    self.assertEqual(forms(next_nodes(machine, node)), forms(wanted))
            for points in list(some)[:40]:
                for point in range(len(machine)):
                    if len(points) < 6:
                        self.assertIs(is_beginning(machine, list(points) + [point]), points + (point,) in some)

    def test_all_nodes(self):
        for luck, ground, machine in machines(60, (2, 4), False, 1):
            some = watching.beginnings(ground, machine, 14)
            self.assertEqual(nodes(machine), sorted({(points[-1], tuple(sorted(lot))) for points, lot in some.items()}))

    def test_runs(self):
        counted = set()
        for luck, ground, machine in machines(150):
            for most in (1, 3, 7):
                self.assertEqual(runs(machine, most), watching.runs(ground, machine, most))
            many = run_count(machine)
            if many is not None:
                kind, told = raised(runs, machine, 30)
                self.assertGreaterEqual(many, len(told) if kind == "returned" else 2001)
            counted.add(many if many is None else min(many, 2))
        self.assertEqual(counted, {None, 0, 1, 2})

    def test_runs_forward(self):
        for luck, ground, machine in machines(100, (3, 6, 9), True):
            told = watching.runs(ground, machine, len(machine))
            self.assertEqual(run_count(machine), len(told))
            self.assertEqual(runs(machine, min(30, len(machine))), told)
            for points in told:
                for watch in ((), ("u",), ("u", "w"), ("a", "v"), ("u", "v", "w")):
                    self.assertEqual(log(machine, watch, points), watching.log(machine, watch, points))
                    self.assertEqual(log(machine, watch, points[:2]), watching.log(machine, watch, points[:2]))


if __name__ == "__main__":
    unittest.main()
