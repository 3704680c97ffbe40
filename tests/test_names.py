"""Names that are exchanged one to one such that their order stays: all results are exchanged likewise."""

import unittest

import samples
from checks import forms
from fourfaces.alike import alike_points, pairs, show_same
from fourfaces.answers import can_be, idle_facts, implied, lets
from fourfaces.errors import TooMany
from fourfaces.laying import machine_of, places_of, points_of
from fourfaces.machines import Machine
from fourfaces.programs import Program
from fourfaces.rows import names_in, paths, renamed
from fourfaces.sheets import Sheet
from fourfaces.tables import least_traces, table_of
from fourfaces.ways import can_never, exits, idle_rows, known_asks, losses, lost_behind, reached

NAMES = set("abcdefgklmnopqrstuvwxyz")
KINDS = ("step", "outcome", "ask", "mark", "error", "stop", "call")


def other(thing):
    """A thing with other names in it, in the same order as ahead."""
    if isinstance(thing, str):
        return "h" + thing if thing in NAMES else thing
    if isinstance(thing, (list, tuple)):
        return type(thing)([other(part) for part in thing])
    if isinstance(thing, dict):
        return {other(key): other(thing[key]) for key in thing}
    return thing


def other_sheet(sheet):
    return Sheet(other(sheet.cells()), other(sheet.asks()), other(sheet.steps()), other(sheet.facts()))


def other_program(program):
    return Program(other_sheet(program.sheet), other(program.rows()), other(program.procedures()))


def programs(many):
    for seed in range(many):
        luck = samples.dice(seed)
        yield samples.small_program(luck, samples.random_sheet(luck, 2, 2))


class Names(unittest.TestCase):
    def test_sheets(self):
        for seed in range(60):
            sheet = samples.random_sheet(samples.dice(seed), living=False)
            turned = sheet
            for kind, names in [("cell", sheet.cells()), ("ask", sheet.names()), ("step", [row[0] for row in sheet.steps()]),
                                ("outcome", sorted({end for row in sheet.steps() for end in row[2]}))]:
                turned = turned.renamed(kind, {name: other(name) for name in names})
            self.assertTrue(turned == other_sheet(sheet))
            self.assertEqual(turned.facts(), other(sheet.facts()))
            for step, _, outcomes in sheet.steps():
                self.assertEqual(turned.leaves(other(step)), other(sheet.leaves(step)))
                for answers in can_be(sheet):
                    for outcome in outcomes:
                        told = lets(sheet, answers, step, outcome)
                        self.assertEqual(lets(turned, answers, other(step), other(outcome)), told)
            self.assertEqual([can_be(turned), idle_facts(turned)], [can_be(sheet), idle_facts(sheet)])
            self.assertEqual(implied(turned, ()), other(implied(sheet, ())))

    def test_rows(self):
        for program in programs(60):
            rows = program.rows()
            turned = rows
            for kind in KINDS + ("label",):
                turned = renamed(turned, kind, {name: other(name) for name in names_in(rows, kind)})
            self.assertEqual(forms(turned), forms(other(rows)))
            self.assertEqual(paths(turned), paths(rows))
            for kind in KINDS + ("label",):
                self.assertEqual(names_in(turned, kind), other(names_in(rows, kind)))

    def test_programs(self):
        for program in programs(80):
            turned = other_program(program)
            machine, second = machine_of(program), machine_of(turned)
            self.assertEqual(forms(second.points()), forms(other(machine.points())))
            self.assertEqual(forms(places_of(turned)), forms(other(places_of(program))))
            for address in program.addresses():
                self.assertEqual(points_of(turned, other(address)), points_of(program, address))
            self.assertEqual([reached(second), can_never(second)], [reached(machine), can_never(machine)])
            for ask in (losses, idle_rows, known_asks):
                self.assertEqual(forms(ask(turned)), forms(other(ask(program))))
            self.assertEqual(exits(second), other(exits(machine)))
            for answers in can_be(program.sheet):
                told = lost_behind(program, (answers, []))
                self.assertEqual(lost_behind(turned, (answers, [])), other(told))

    def test_machines(self):
        for seed in range(60):
            luck = samples.dice(seed)
            sheet = samples.random_sheet(luck, 2, 2)
            one, two = samples.random_machine(luck, sheet, 4), samples.random_machine(luck, sheet, 5)
            first, second = [Machine(other_sheet(sheet), other(machine.points())) for machine in (one, two)]
            self.assertEqual([pairs(first, second), show_same(first, second)], [pairs(one, two), show_same(one, two)])
            self.assertEqual(first.marks(), other(one.marks()))
            for answers in can_be(sheet):
                self.assertEqual(alike_points(first, 0, second, answers), alike_points(one, 0, two, answers))
                self.assertEqual(first.move(0, answers), other(one.move(0, answers)))
            table, turned = table_of(one), table_of(first)
            self.assertEqual([turned.begins(), turned.states()], [table.begins(), other(table.states())])
            self.assertEqual(least_traces(turned), other(least_traces(table)))

    def test_labels_may_be_exchanged_in_any_way(self):
        seen = 0
        for program in programs(80):
            labels = {"k": "z", "l": "k", "m": "a"}
            rows = renamed(program.rows(), "label", labels)
            procedures = {name: renamed(inner, "label", labels) for name, inner in program.procedures().items()}
            turned = Program(program.sheet, rows, procedures)
            self.assertTrue(machine_of(turned) == machine_of(program))
            self.assertEqual([idle_rows(turned), known_asks(turned)], [idle_rows(program), known_asks(program)])
            self.assertEqual(len(losses(turned)), len(losses(program)))
            seen += turned.rows() != program.rows()
        self.assertGreater(seen, 20)

    def test_too_many_points_are_so_by_any_names(self):
        sheet = Sheet([], [], [])
        for word in ("w", "other"):
            with self.assertRaises(TooMany):
                machine_of(Program(sheet, (("mark", word),) * 100))


if __name__ == "__main__":
    unittest.main()
