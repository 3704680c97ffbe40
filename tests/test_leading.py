"""Leading back: the rows of which a program has just a machine."""

import unittest

import samples
from checks import raised
from fourfaces.errors import NoTree
from fourfaces.laying import machine_of
from fourfaces.leading import is_tree_of, tree_of
from fourfaces.machines import Machine
from fourfaces.programs import Program
from fourfaces.rings import crossing, is_crossing
from fourfaces.rows import are_rows, bodies, depth, how_many
from fourfaces.sheets import Sheet

SHEET = Sheet(["c"], [("p", ["c"])], [("s", ["c"], ["bad", "ok"])])
END, ROUND = ("out", ("end",)), ("round",)
RAISE, STOP = ("out", ("raise", "e")), ("out", ("stop", "w"))


def kinds(rows):
    """The kinds of all rows, at any depth."""
    found = []
    for row in rows:
        found.append(row[0])
        for inner in bodies(row):
            found += kinds(inner)
    return found


class Trees(unittest.TestCase):
    def check(self, machine):
        """The tree of a machine has just this machine; which the tree itself is was not told."""
        rows = tree_of(machine)
        self.assertTrue(are_rows(rows))
        self.assertFalse({"try", "call"} & set(kinds(rows)))
        self.assertTrue(machine_of(Program(machine.sheet, rows)) == machine)
        self.assertIs(is_tree_of(machine, rows), True)
        own = [row for row in machine.points() if row[0] in ("do", "ask", "mark")]
        if len(own) <= 8:
            self.assertLessEqual(depth(rows), 30)
        self.assertEqual(sorted(kind for kind in kinds(rows) if kind in ("do", "if", "mark")),
                         sorted({"do": "do", "ask": "if", "mark": "mark"}[row[0]] for row in own))
        return rows

    def test_the_example(self):
        sheet = Sheet(["c"], [("p", ["c"])], [("s", ["c"], ["ok"])])
        single = Machine(sheet, [("do", "s", (("ok", 1),)), ("ask", "p", 2, 0), END])
        self.assertTrue(machine_of(Program(sheet, tree_of(single))) == single)
        self.check(single)

    def test_machines_of_one_point(self):
        for point in (END, ROUND, RAISE, STOP, ("mark", "a", 0), ("ask", "p", 0, 0), ("do", "s", (("bad", 0), ("ok", 0)))):
            self.check(Machine(SHEET, [point]))
        self.assertEqual(tree_of(Machine(SHEET, [END])), ())

    def test_all_machines_of_few_points(self):
        """Each machine of three points or less, of a sheet with one ask, one step and one word."""
        sheet = Sheet([], [("p", [])], [("s", [], ["ok"])])
        led, crossed = 0, 0
        for many in (1, 2, 3):
            rows = [END, RAISE, ROUND] + [("mark", "w", goal) for goal in range(many)]
            rows += [("do", "s", (("ok", goal),)) for goal in range(many)]
            rows += [("ask", "p", yes, no) for yes in range(many) for no in range(many)]
            lots = [[]]
            for _ in range(many):
                lots = [some + [row] for some in lots for row in rows]
            for points in lots:
                kind, machine = raised(Machine, sheet, points)
                if kind == "returned":
                    if crossing(machine) is None:
                        self.check(machine)
                        led += 1
                    else:
                        self.assertIs(raised(tree_of, machine)[0], NoTree)
                        crossed += 1
        self.assertGreater(led, 500)
        self.assertGreater(crossed, 5)

    def test_both_goals_alike(self):
        self.check(Machine(SHEET, [("ask", "p", 1, 1), ("mark", "a", 2), END]))
        self.check(Machine(SHEET, [("do", "s", (("bad", 1), ("ok", 1))), ("mark", "a", 0)]))
        self.check(Machine(SHEET, [("do", "s", (("bad", 1), ("ok", 1))), END]))

    def test_loops_in_loops_that_are_left_from_within(self):
        nest = [("ask", "p", 1, 5), ("ask", "p", 2, 0), ("ask", "p", 3, 1), ("ask", "p", 4, 2), ("ask", "p", 3, 5), END]
        self.check(Machine.made(SHEET, nest, 0))

    def test_a_crossing(self):
        both = Machine(SHEET, [("ask", "p", 1, 2), ("mark", "a", 2), ("mark", "b", 1)])
        kind, fields = raised(tree_of, both)
        self.assertIs(kind, NoTree)
        self.assertEqual(list(fields), ["crossing"])
        self.assertIs(is_crossing(both, fields["crossing"]), True)

    def test_machines_of_programs(self):
        for seed in range(200):
            luck = samples.dice(seed)
            program = samples.small_program(luck, samples.random_sheet(luck), 100)
            self.check(machine_of(program))

    def test_random_machines(self):
        led = 0
        for seed in range(600):
            luck = samples.dice(seed)
            sheet = samples.random_sheet(luck)
            make = samples.lively_machine if seed % 2 else samples.random_machine
            machine = make(luck, sheet, luck.choice([2, 3, 5, 8, 12]))
            if crossing(machine) is None:
                self.check(machine)
                led += 1
            else:
                kind, fields = raised(tree_of, machine)
                self.assertIs(kind, NoTree)
                self.assertIs(is_crossing(machine, fields["crossing"]), True)
                self.assertIs(is_tree_of(machine, ()), False)
        self.assertGreater(led, 300)
        self.assertLess(led, 590)

    def test_forty_points_forward(self):
        for seed in range(40):
            luck = samples.dice(seed)
            sheet = samples.random_sheet(luck)
            self.check(samples.lively_machine(luck, sheet, 40, True))

    def test_long_chains(self):
        for many in (39, 97):
            marks = [("mark", "a", at + 1) for at in range(many)]
            self.check(Machine(SHEET, marks + [END]))
            self.check(Machine(SHEET, marks + [("mark", "a", 0)]))
            steps = [("do", "s", (("bad", at + 1), ("ok", at + 1))) for at in range(many)]
            self.check(Machine(SHEET, steps + [RAISE]))
            self.check(Machine(SHEET, [("ask", "p", at, at + 1) for at in range(many)] + [ROUND]))
            self.check(Machine(SHEET, [("ask", "p", at + 1, 0) for at in range(many)] + [END]))

    def test_rings_around_rings(self):
        # each point leads back to the one half as far, so that the loops stand in one another
        points = [("ask", "p", at + 1, at // 2) for at in range(39)] + [END]
        self.check(Machine(SHEET, points))
        # each point leads back to itself, and to all ahead of it
        sheet = Sheet([], [], [("s", [], ["a", "b", "o"])])
        points = [("do", "s", (("a", at), ("b", at + 1), ("o", 0))) for at in range(39)] + [END]
        self.check(Machine(sheet, points))

    def test_labels_are_unlike(self):
        """The last point leads back to a first one, out of the loops of all points between."""
        for many in (27, 39, 90):
            for goal in (0, 1):
                points = [("ask", "p", at + 1, at) for at in range(many)] + [("ask", "p", goal, many + 1), END]
                self.check(Machine(SHEET, points))
            # and out of blocks, one in another
            sheet = Sheet([], [], [("s", [], ["a", "b"])])
            asks = [("do", "s", (("a", at + 1), ("b", 2 * many - at))) for at in range(many)]
            marks = [("mark", "w", many + 1 + at) for at in range(many)]
            if 2 * many < 99:
                self.check(Machine.made(sheet, asks + marks + [END], 0))

    def test_eight_points_do_not_stand_deep(self):
        for seed in range(300):
            luck = samples.dice(seed)
            machine = samples.lively_machine(luck, SHEET, 9, seed % 2 == 0)
            if crossing(machine) is None:
                self.assertLessEqual(depth(self.check(machine)), 30)


class TreeOf(unittest.TestCase):
    def test_other_rows_of_the_same_machine(self):
        machine = machine_of(Program(SHEET, (("if", "p", (("mark", "a"),), ()), ("stop", "w"))))
        right = [
            (("if", "p", (("mark", "a"), ("stop", "w")), (("stop", "w"),)),),
            (("block", "k", (("if", "p", (("mark", "a"), ("leave", "k")), ()),)), ("stop", "w"), ("mark", "z")),
            (("try", (("raise", "e"),), ((("e",), (("if", "p", (("mark", "a"),), ()), ("stop", "w"))),), ()),),
        ]
        for rows in right:
            self.assertIs(is_tree_of(machine, rows), True)
        wrong = [
            (), (("if", "p", (("mark", "b"),), ()), ("stop", "w")), (("if", "p", (), (("mark", "a"),)), ("stop", "w")),
            (("if", "p", (("mark", "a"),), ()),), (("if", "q", (("mark", "a"),), ()), ("stop", "w")), (("call", "n"),),
            (("leave", "k"),), [("if", "p", (("mark", "a"),), ()), ("stop", "w")], (("do", "x", ()),),
            (("mark", "a"),) * 101, (("mark", "a"),) * 3000,
        ]
        for thing in wrong + samples.ODDITIES + samples.twisted(right[1]):
            told = is_tree_of(machine, thing)
            self.assertIs(told, are_rows(thing) and self.has(machine, thing))
        for thing in wrong:
            self.assertIs(is_tree_of(machine, thing), False)

    def has(self, machine, rows):
        kind, program = raised(Program, machine.sheet, rows)
        return kind == "returned" and raised(machine_of, program)[0] == "returned" and machine_of(program) == machine

    def test_another_sheet(self):
        other = SHEET.with_fact(("never", (("p", True),)))
        machine = Machine(other, [("mark", "a", 1), END])
        self.assertIs(is_tree_of(machine, (("mark", "a"),)), True)
        self.assertIs(is_tree_of(machine, (("mark", "a"), ("stop", "a"))), False)

    def test_deep_values(self):
        deep = ()
        for _ in range(12):
            deep = (("try", (("loop", "l", deep),), (), deep),)
        self.assertIs(is_tree_of(Machine(SHEET, [ROUND]), deep), True)
        self.assertEqual(how_many(tree_of(Machine(SHEET, [ROUND]))), 1)


if __name__ == "__main__":
    unittest.main()
