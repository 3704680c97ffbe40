"""Names that are exchanged one to one such that their order stays: all results are exchanged likewise."""

import unittest

import books
import cuts
import oracle
import samples
from checks import forms, raised
from fourfaces.alike import alike_points, pairs, show_same
from fourfaces.answers import can_be, idle_facts, implied, lets
from fourfaces.behind import can_rows, count_runs, first_runs, least_run, sure_rows
from fourfaces.cutting import alike_everywhere, alike_here, cut_out, idle_procedures, pruned
from fourfaces.errors import TooMany
from fourfaces.frames import Frame, carried, told_back
from fourfaces.laying import machine_of, places_of, points_of
from fourfaces.leading import is_tree_of, tree_of
from fourfaces.learning import book_of, is_learned, learned, table_led
from fourfaces.lots import fewest_words, greatest_silent, least_telling, needed_words
from fourfaces.machines import Machine
from fourfaces.moves import Yard
from fourfaces.pieces import comes_with, leading_out, pieces, ways_of
from fourfaces.playing import played, trace_of, written
from fourfaces.programs import Program
from fourfaces.rings import doors, leads_back, passed
from fourfaces.rows import names_in, paths, renamed
from fourfaces.runs import log, nodes, run_count, runs
from fourfaces.shared import fewest_lots, share_lots
from fourfaces.sheets import Sheet
from fourfaces.tables import least_traces, table_of
from fourfaces.watches import sides, silent_round, tells_beginnings, tells_runs
from fourfaces.ways import can_never, exits, idle_rows, known_asks, losses, lost_behind, reached
from fourfaces.worlds import World

NAMES = set("abcdefgklmnopqrstuvwxyz")
KINDS = ("step", "outcome", "ask", "mark", "error", "stop", "call")


def other(thing):
    """A thing with other names in it, in the same order as ahead."""
    if isinstance(thing, str):
        return "h" + thing if thing in NAMES else thing
    if isinstance(thing, (list, tuple)):
        return type(thing)([other(part) for part in thing])
    if isinstance(thing, dict):
        return {other(key): other(thing[key]) for key in thing}
    return thing


def other_sheet(sheet):
    return Sheet(other(sheet.cells()), other(sheet.asks()), other(sheet.steps()), other(sheet.facts()))


def other_program(program):
    return Program(other_sheet(program.sheet), other(program.rows()), other(program.procedures()))


def programs(many):
    for seed in range(many):
        luck = samples.dice(seed)
        yield samples.small_program(luck, samples.random_sheet(luck, 2, 2))


class Names(unittest.TestCase):
    def test_sheets(self):
        for seed in range(60):
            sheet = samples.random_sheet(samples.dice(seed), living=False)
            turned = sheet
            for kind, names in [("cell", sheet.cells()), ("ask", sheet.names()), ("step", [row[0] for row in sheet.steps()]),
                                ("outcome", sorted({end for row in sheet.steps() for end in row[2]}))]:
                turned = turned.renamed(kind, {name: other(name) for name in names})
            self.assertTrue(turned == other_sheet(sheet))
            self.assertEqual(turned.facts(), other(sheet.facts()))
            for step, _, outcomes in sheet.steps():
                self.assertEqual(turned.leaves(other(step)), other(sheet.leaves(step)))
                for answers in can_be(sheet):
                    for outcome in outcomes:
                        told = lets(sheet, answers, step, outcome)
                        self.assertEqual(lets(turned, answers, other(step), other(outcome)), told)
            self.assertEqual([can_be(turned), idle_facts(turned)], [can_be(sheet), idle_facts(sheet)])
            self.assertEqual(implied(turned, ()), other(implied(sheet, ())))

    def test_rows(self):
        for program in programs(60):
            rows = program.rows()
            turned = rows
            for kind in KINDS + ("label",):
                turned = renamed(turned, kind, {name: other(name) for name in names_in(rows, kind)})
            self.assertEqual(forms(turned), forms(other(rows)))
            self.assertEqual(paths(turned), paths(rows))
            for kind in KINDS + ("label",):
                self.assertEqual(names_in(turned, kind), other(names_in(rows, kind)))

    def test_programs(self):
        for program in programs(80):
            turned = other_program(program)
            machine, second = machine_of(program), machine_of(turned)
            self.assertEqual(forms(second.points()), forms(other(machine.points())))
            self.assertEqual(forms(places_of(turned)), forms(other(places_of(program))))
            for address in program.addresses():
                self.assertEqual(points_of(turned, other(address)), points_of(program, address))
            self.assertEqual([reached(second), can_never(second)], [reached(machine), can_never(machine)])
            for ask in (losses, idle_rows, known_asks):
                self.assertEqual(forms(ask(turned)), forms(other(ask(program))))
            self.assertEqual(exits(second), other(exits(machine)))
            for answers in can_be(program.sheet):
                told = lost_behind(program, (answers, []))
                self.assertEqual(lost_behind(turned, (answers, [])), other(told))

    def test_machines(self):
        for seed in range(60):
            luck = samples.dice(seed)
            sheet = samples.random_sheet(luck, 2, 2)
            one, two = samples.random_machine(luck, sheet, 4), samples.random_machine(luck, sheet, 5)
            first, second = [Machine(other_sheet(sheet), other(machine.points())) for machine in (one, two)]
            self.assertEqual([pairs(first, second), show_same(first, second)], [pairs(one, two), show_same(one, two)])
            self.assertEqual(first.marks(), other(one.marks()))
            for answers in can_be(sheet):
                self.assertEqual(alike_points(first, 0, second, answers), alike_points(one, 0, two, answers))
                self.assertEqual(first.move(0, answers), other(one.move(0, answers)))
            table, turned = table_of(one), table_of(first)
            self.assertEqual([turned.begins(), turned.states()], [table.begins(), other(table.states())])
            self.assertEqual(least_traces(turned), other(least_traces(table)))

    def test_programs_that_are_renamed(self):
        for program in programs(60):
            turned = program
            for kind in KINDS + ("label", "cell"):
                turned = turned.renamed(kind, {name: other(name) for name in NAMES})
            self.assertTrue(turned == other_program(program))
            for name, path in program.addresses():
                first, second = program.around((name, path)), turned.around((other(name), path))
                self.assertEqual(second, other(first))
                self.assertEqual(turned.led_to((other(name), path)), other(program.led_to((name, path))))
            for kind in KINDS + ("label",):
                self.assertEqual(turned.names_in(kind), other(program.names_in(kind)))

    def pairs_of_machines(self, many):
        for seed in range(many):
            luck = samples.dice(seed)
            sheet = samples.random_sheet(luck, 2, 2)
            machine = samples.lively_machine(luck, sheet, luck.choice([3, 5, 7]), seed % 2 == 0)
            yield luck, machine, Machine(other_sheet(sheet), other(machine.points()))

    def test_playing(self):
        for luck, machine, turned in self.pairs_of_machines(60):
            world = samples.keeping_world(luck, machine.sheet)
            exchanged = World(turned.sheet, other(world.states()))
            for state in range(len(world)):
                for act in (played, written, trace_of):
                    self.assertEqual(forms(act(turned, exchanged, state)), forms(other(act(machine, world, state))))

    def test_rings_and_trees(self):
        for luck, machine, turned in self.pairs_of_machines(60):
            self.assertEqual([passed(turned), leads_back(turned)], [passed(machine), leads_back(machine)])
            for point, goal in leads_back(machine):
                if point == goal:
                    self.assertEqual(doors(turned, [point]), doors(machine, [point]))
            kind, rows = raised(tree_of, machine)
            self.assertEqual(raised(tree_of, turned)[0], kind)
            if kind == "returned":
                self.assertIs(is_tree_of(turned, other(rows)), True)

    def test_log_books(self):
        for luck, machine, turned in self.pairs_of_machines(60):
            heads = books.random_heads(luck, oracle.Ground(machine.sheet), machine, 4)
            tails = books.random_tails(luck, machine.sheet, 2)
            for book in (book_of(machine, heads, tails), learned(machine)):
                exchanged = book_of(turned, other(book.heads()), other(book.tails()))
                self.assertEqual(exchanged.traces(), other(book.traces()))
                self.assertEqual([exchanged.row(other(key)) for key in book.traces()], [other(book.row(key)) for key in book.traces()])
                self.assertEqual(exchanged.gap(), other(book.gap()) if book.gap() else None)
                self.assertIs(is_learned(turned, exchanged), is_learned(machine, book))
                if book.gap() is None:
                    first, second = table_led(book), table_led(exchanged)
                    self.assertEqual([second.begins(), second.states()], [first.begins(), other(first.states())])

    def test_runs_and_watches(self):
        for luck, machine, turned in self.pairs_of_machines(60):
            self.assertEqual([nodes(turned), run_count(turned), runs(turned, 6)], [nodes(machine), run_count(machine), runs(machine, 6)])
            for watch in ((), ("u",), ("v", "w")):
                self.assertEqual(sides(turned, other(watch)), sides(machine, watch))
                for ask in (tells_runs, tells_beginnings):
                    self.assertIs(ask(turned, other(watch)), ask(machine, watch))
                self.assertIs(silent_round(turned, other(watch)) is None, silent_round(machine, watch) is None)
                for points in runs(machine, 6):
                    self.assertEqual(log(turned, other(watch), points), other(log(machine, watch, points)))
            for way in ("runs", "beginnings"):
                for ask in (least_telling, greatest_silent, fewest_words, needed_words):
                    self.assertEqual(ask(turned, way), other(ask(machine, way)))

    def test_torn_logs(self):
        watch = ("u", "v")
        for program in programs(60):
            machine, turned = machine_of(program), machine_of(other_program(program))
            for torn in (["*"], ["?", "*"], ["u", "*"], ["v"], ["*", "v", "*"]):
                exchanged = other(torn)
                for ask in (count_runs, least_run):
                    self.assertEqual(raised(ask, turned, other(watch), exchanged), raised(ask, machine, watch, torn))
                self.assertEqual(first_runs(turned, other(watch), exchanged, 4), first_runs(machine, watch, torn, 4))
                for ask in (sure_rows, can_rows):
                    kind, told = raised(ask, program, watch, torn)
                    wanted = (kind, other(told)) if kind == "returned" else (kind, told)
                    self.assertEqual(raised(ask, other_program(program), other(watch), exchanged), wanted)

    def test_frames_and_yards(self):
        for luck, machine, turned in self.pairs_of_machines(60):
            world, watch = samples.keeping_world(luck, machine.sheet), ("u", "v")
            frame = Frame(machine, world, 0)
            second = Frame(turned, World(turned.sheet, other(world.states())), 0)
            for _ in range(5):
                self.assertEqual([second.points(), second.state()], [frame.points(), frame.state()])
                self.assertEqual(second.log(other(watch)), other(frame.log(watch)))
                self.assertEqual([one.point() for one in carried(second, turned)], [one.point() for one in carried(frame, machine)])
                told = raised(told_back, machine, watch, frame.log(watch), frame.point())
                self.assertEqual(raised(told_back, turned, other(watch), second.log(other(watch)), frame.point()), told)
                self.assertEqual(second.go(1), frame.go(1))
            moves = [(luck.randrange(2), luck.randrange(len(machine)), luck.randrange(2), luck.randrange(len(machine)))]
            first, second = Yard([machine, machine], moves), Yard([turned, turned], moves)
            self.assertEqual([second.stands(), second.needless(), second.harmless()], [first.stands(), first.needless(), first.harmless()])
            self.assertIs(second.is_safe(), first.is_safe())

    def test_pieces(self):
        for program in programs(60):
            turned = other_program(program)
            some = pieces(program)
            self.assertEqual(pieces(turned), other(some))
            for piece in some:
                for ask in (leading_out, ways_of, comes_with):
                    self.assertEqual(ask(turned, other(piece)), other(ask(program, piece)))
                kind, new = raised(cut_out, program, piece, "x")
                second = raised(cut_out, turned, other(piece), other("x"))
                self.assertIs(second[0], kind)
                if kind == "returned":
                    self.assertTrue(second[1] == other_program(new))
                else:
                    self.assertEqual(second[1], other(new))
            self.assertEqual(idle_procedures(turned), other(idle_procedures(program)))
            self.assertTrue(pruned(turned) == other_program(pruned(program)))
            few = cuts.apart(program, some)[:4]
            self.assertEqual(share_lots(turned, other(few)), share_lots(program, few))
            self.assertEqual(fewest_lots(turned, other(few)), fewest_lots(program, few))
            for piece in few:
                self.assertIs(alike_everywhere(turned, other(piece), other(few[0])), alike_everywhere(program, piece, few[0]))
                self.assertIs(alike_here(turned, other(piece), other(few[0])), alike_here(program, piece, few[0]))

    def test_labels_may_be_exchanged_in_any_way(self):
        seen = 0
        for program in programs(80):
            labels = {"k": "z", "l": "k", "m": "a"}
            rows = renamed(program.rows(), "label", labels)
            procedures = {name: renamed(inner, "label", labels) for name, inner in program.procedures().items()}
            turned = Program(program.sheet, rows, procedures)
            self.assertTrue(machine_of(turned) == machine_of(program))
            self.assertEqual([idle_rows(turned), known_asks(turned)], [idle_rows(program), known_asks(program)])
            self.assertEqual(len(losses(turned)), len(losses(program)))
            seen += turned.rows() != program.rows()
        self.assertGreater(seen, 20)

    def test_too_many_points_are_so_by_any_names(self):
        sheet = Sheet([], [], [])
        for word in ("w", "other"):
            with self.assertRaises(TooMany):
                machine_of(Program(sheet, (("mark", word),) * 100))


if __name__ == "__main__":
    unittest.main()
