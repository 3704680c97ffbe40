"""Unrolled: rows whose machine shows the same as a table, with each state again on each way to it."""

import unittest

import samples
from fourfaces.alike import show_same
from fourfaces.laying import machine_of
from fourfaces.machines import Machine
from fourfaces.programs import Program
from fourfaces.rings import crossing
from fourfaces.rows import depth
from fourfaces.sheets import Sheet
from fourfaces.tables import machine_from, table_of
from fourfaces.unrolled import Unrolled, rows_of_table

SHEET = Sheet(["c"], [("p", ["c"])], [("s", ["c"], ["bad", "ok"])])


def dense_machine(luck, sheet, many):
    """A machine each of whose steps leads to as many other ones as it can."""
    points = []
    for at in range(many):
        name, _, outcomes = sheet.steps()[at % len(sheet.steps())]
        goals = luck.sample([other for other in range(many) if other != at], len(outcomes))
        points.append(("do", name, tuple(zip(outcomes, goals))))
    return Machine.made(sheet, points, 0)


class Rows(unittest.TestCase):
    def check(self, machine):
        """The rows show the same as a table, whether the machine that comes of it has a crossing or not."""
        table = table_of(machine)
        for rows in (rows_of_table(table), Unrolled(table).rows()):
            program = Program(machine.sheet, rows)
            self.assertTrue(show_same(machine_of(program), machine))
            kinds = {program.row_at(address)[0] for address in program.addresses()}
            self.assertFalse(kinds & {"try", "call"})
            self.assertLessEqual(depth(rows), 30)
        return len(machine_of(program))

    def test_single_ends(self):
        for point in (("out", ("end",)), ("out", ("raise", "e")), ("out", ("stop", "w")), ("round",)):
            self.check(Machine(SHEET, [point]))
            self.check(Machine(SHEET, [("do", "s", (("bad", 0), ("ok", 1))), point]))
            self.check(Machine.made(SHEET, [("ask", "p", 1, 2), point, ("out", ("stop", "x"))], 0))

    def test_rows(self):
        machine = Machine(Sheet([], [], [("s", [], ["a", "b"])]), [("do", "s", (("a", 0), ("b", 1))), ("out", ("end",))])
        rows = Unrolled(table_of(machine)).rows()
        self.assertEqual(rows, (("block", "e", (("loop", "la", (("do", "s", (("a", (("again", "la"),)), ("b", (("leave", "e"),)))),)),)),))

    def test_random_tables(self):
        """Those of sheets no step of which puts a cell at which an ask looks, and small ones of any sheets."""
        small = 0
        for seed in range(300):
            luck = samples.dice(seed)
            sheet = samples.still_sheet(luck) if seed % 4 else samples.random_sheet(luck, 2, 2)
            machine = samples.lively_machine(luck, sheet, luck.choice([2, 3, 4, 5]), seed % 3 == 0)
            if len(table_of(machine)) <= (5 if seed % 4 else 3):
                self.check(machine)
                small += 1
        self.assertGreater(small, 80)

    def test_an_outcome_that_lets_none_behind(self):
        sheet = Sheet(["c"], [("p", [])], [("s", [], ["bad", "ok"])], [("after", "s", "bad", "p", True)])
        for points in ([("do", "s", (("bad", 1), ("ok", 0))), ("out", ("end",))], [("do", "s", (("bad", 0), ("ok", 1))), ("out", ("end",))]):
            self.check(Machine(sheet, points))

    def test_crossings(self):
        sheet = Sheet([], [], [(name, [], ["a", "b", "o"]) for name in ("s", "t", "x", "y")])
        crossed, most = 0, 0
        for seed in range(60):
            machine = dense_machine(samples.dice(seed), sheet, 5)
            crossed += crossing(machine_from(table_of(machine))) is not None
            most = max(most, self.check(machine))
        self.assertGreater(crossed, 30)
        self.assertLessEqual(most, 49)


if __name__ == "__main__":
    unittest.main()
