"""Playing: runs of machines in worlds, what they write, and their traces."""

import unittest

import oracle
import samples
from checks import forms
from fourfaces.laying import machine_of
from fourfaces.machines import Machine
from fourfaces.playing import played, trace_of, written
from fourfaces.programs import Program
from fourfaces.sheets import Sheet
from fourfaces.worlds import World, is_trace

SHEET = Sheet(["c"], [("p", ["c"])], [("s", ["c"], ["bad", "ok"])])
NO, YES = (False,), (True,)
END = ("out", ("end",))
# from no to yes by ok, from yes to yes by bad
WORLD = World(SHEET, [(NO, {"s": ("ok", 1)}), (YES, {"s": ("bad", 1)})])


class Plain:
    """A run, point by point, as the document tells it."""

    def __init__(self, machine, world, state):
        self.turns, self.words = [], []
        points, names = machine.points(), machine.sheet.names()
        point, stood, passed = 0, [], []
        while True:
            row = points[point]
            if point in passed or row[0] == "round":
                self.end = ("never",)
                return
            passed.append(point)
            if row[0] == "out":
                self.end = row
                return
            if row[0] == "mark":
                self.words.append(row[1])
                point = row[2]
            elif row[0] == "ask":
                point = row[2] if world.answers(state)[names.index(row[1])] else row[3]
            else:
                if (point, state) in stood:
                    self.end = ("ring", stood.index((point, state)))
                    return
                stood.append((point, state))
                outcome, state = world.lead(state, row[1])
                self.turns.append((row[1], outcome, state))
                point, passed = dict(row[2])[outcome], []


class Playing(unittest.TestCase):
    def test_the_example(self):
        done = ("do", "s", (("bad", (("raise", "e"),)),))
        rows = (("loop", "l", (("try", (done,), (), (("if", "p", (("leave", "l"),), ()),)),)),)
        machine = machine_of(Program(SHEET, rows))
        told = [played(machine, WORLD, 0), played(machine, WORLD, 1)]
        self.assertEqual(forms(told), forms([([("s", "ok", 1)], END), ([("s", "bad", 1)], END)]))
        self.assertEqual(forms(trace_of(machine, WORLD, 0)), forms((NO, [("s", "ok", YES)])))
        self.assertEqual(written(machine, WORLD, 0), [])

    def test_a_run_that_ends_at_once(self):
        for point in (END, ("out", ("raise", "e")), ("out", ("stop", "w"))):
            machine = Machine(SHEET, [point])
            self.assertEqual(forms(played(machine, WORLD, 1)), forms(([], point)))
            self.assertEqual(forms(written(machine, WORLD, 1)), forms([]))
            self.assertEqual(forms(trace_of(machine, WORLD, 1)), forms((YES, [])))

    def test_going_round_without_a_step(self):
        self.assertEqual(forms(played(Machine(SHEET, [("round",)]), WORLD, 0)), forms(([], ("never",))))
        self.assertEqual(written(Machine(SHEET, [("round",)]), WORLD, 0), [])
        machine = Machine(SHEET, [("mark", "a", 1), ("mark", "b", 0)])
        self.assertEqual([played(machine, WORLD, 0), written(machine, WORLD, 0)], [([], ("never",)), ["a", "b"]])
        # the first mark is not in the ring, the ask is the first point that comes again
        machine = Machine(SHEET, [("mark", "a", 1), ("ask", "p", 2, 3), END, ("mark", "b", 4), ("mark", "a", 1)])
        self.assertEqual([played(machine, WORLD, 0), written(machine, WORLD, 0)], [([], ("never",)), ["a", "b", "a"]])
        self.assertEqual([played(machine, WORLD, 1), written(machine, WORLD, 1)], [([], END), ["a"]])

    def test_going_round_behind_a_step(self):
        machine = Machine(SHEET, [("do", "s", (("bad", 1), ("ok", 2))), END, ("mark", "a", 2)])
        self.assertEqual([played(machine, WORLD, 0), written(machine, WORLD, 0)], [([("s", "ok", 1)], ("never",)), ["a"]])
        self.assertEqual(trace_of(machine, WORLD, 0), (NO, [("s", "ok", YES)]))

    def test_a_ring(self):
        machine = Machine(SHEET, [("mark", "a", 1), ("do", "s", (("bad", 0), ("ok", 2))), ("mark", "b", 1)])
        turns = [("s", "ok", 1), ("s", "bad", 1), ("s", "bad", 1)]
        # the step of the turn 1 is come to at the point and the state at which it was done ahead
        self.assertEqual(forms(played(machine, WORLD, 0)), forms((turns[:2], ("ring", 1))))
        self.assertEqual(written(machine, WORLD, 0), ["a", "b", "a"])
        self.assertEqual(trace_of(machine, WORLD, 0), (NO, [("s", "ok", YES), ("s", "bad", YES)]))
        self.assertEqual(forms(played(machine, WORLD, 1)), forms(([("s", "bad", 1)], ("ring", 0))))
        self.assertEqual(written(machine, WORLD, 1), ["a", "a"])

    def test_the_same_point_at_another_state_is_no_ring(self):
        states = [(NO, {"s": ("ok", at + 1)}) for at in range(399)] + [(YES, {"s": ("bad", 399)})]
        world = World(SHEET, states)
        machine = Machine(SHEET, [("do", "s", (("bad", 1), ("ok", 0))), END])
        turns, end = played(machine, world, 0)
        self.assertEqual([len(turns), turns[-1], end], [400, ("s", "bad", 399), END])
        machine = Machine(SHEET, [("do", "s", (("bad", 0), ("ok", 0)))])
        self.assertEqual([len(played(machine, world, 7)[0]), played(machine, world, 7)[1]], [393, ("ring", 392)])

    def test_the_same_state_at_another_point_is_no_ring(self):
        points = [("do", "s", (("bad", at + 1), ("ok", at + 1))) for at in range(39)] + [END]
        self.assertEqual(played(Machine(SHEET, points), WORLD, 1), ([("s", "bad", 1)] * 39, END))

    def test_long_runs(self):
        points = [("do", "s", (("bad", (at + 1) % 37), ("ok", (at + 1) % 37))) for at in range(37)]
        world = World(SHEET, [(NO, {"s": ("ok", (at + 1) % 400)}) for at in range(400)])
        turns, end = played(Machine(SHEET, points), world, 0)
        self.assertEqual([len(turns), end], [37 * 400, ("ring", 0)])

    def test_compared_with_the_definition(self):
        ends = set()
        for seed in range(300):
            luck = samples.dice(seed)
            sheet = samples.random_sheet(luck)
            make = samples.lively_machine if seed % 2 else samples.random_machine
            machine, world = make(luck, sheet, luck.choice([2, 5, 9])), samples.keeping_world(luck, sheet)
            for state in range(len(world)):
                plain = Plain(machine, world, state)
                self.assertEqual(forms(played(machine, world, state)), forms((plain.turns, plain.end)))
                self.assertEqual(written(machine, world, state), plain.words)
                answers, turns = trace_of(machine, world, state)
                self.assertEqual([answers, len(turns)], [world.answers(state), len(plain.turns)])
                self.assertIsInstance(turns, list)
                self.assertTrue(is_trace(sheet, (answers, turns)))
                self.assertTrue(machine.goes_along((answers, turns)))
                shown = machine.shows((answers, turns))
                self.assertEqual(shown, plain.end if plain.end[0] != "ring" else ("do", plain.turns[plain.end[1]][0]))
                ends.add(plain.end[0])
        self.assertEqual(ends, {"out", "never", "ring"})

    def test_a_run_of_the_rows(self):
        """The rows, done as the document tells, do the same steps and end by the same exit."""
        for seed in range(150):
            luck = samples.dice(seed)
            sheet = samples.random_sheet(luck)
            program, world = samples.small_program(luck, sheet), samples.keeping_world(luck, sheet)
            machine = machine_of(program)
            for state in range(len(world)):
                events, end = oracle.Rows(program, world, state, 400).run()
                turns, told = played(machine, world, state)
                steps = [event[2] for event in events if event[0] == "do"]
                words = [event[2] for event in events if event[0] == "mark"]
                if told[0] == "out":
                    self.assertEqual([(step, out, world.answers(later)) for step, out, later in turns], steps)
                    self.assertEqual([told[1], written(machine, world, state)], [end, words])
                else:
                    self.assertIn(end, [None, ("round",)])
                    self.assertEqual(written(machine, world, state), words[:len(written(machine, world, state))])

    def test_what_is_told_is_new(self):
        machine = Machine(SHEET, [("mark", "a", 1), ("do", "s", (("bad", 0), ("ok", 0)))])
        first = [played(machine, WORLD, 0), written(machine, WORLD, 0), trace_of(machine, WORLD, 0)]
        first[0][0].clear()
        first[1].clear()
        first[2][1].clear()
        self.assertEqual(len(played(machine, WORLD, 0)[0]), 2)
        self.assertEqual(written(machine, WORLD, 0), ["a", "a", "a"])
        self.assertEqual(len(trace_of(machine, WORLD, 0)[1]), 2)


if __name__ == "__main__":
    unittest.main()
