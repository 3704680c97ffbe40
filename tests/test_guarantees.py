"""The guarantees of the document, one by one, over the whole program."""

import unittest
from itertools import combinations

import oracle
import samples
import texts
import watching
from checks import forms, raised
from fourfaces.alike import are_pairs, is_parting, pairs, parting, show_same
from fourfaces.answers import can_be
from fourfaces.behind import can_points, count_runs, first_runs, least_run, missed_run, sure_points
from fourfaces.book import Book
from fourfaces.desk import Desk
from fourfaces.errors import NoTree
from fourfaces.frames import Frame, carried
from fourfaces.laying import machine_of
from fourfaces.leading import tree_of
from fourfaces.learning import is_learned, learned, table_led
from fourfaces.machines import Machine
from fourfaces.mending import closes, cost, fewest, floor, is_floor, mend, mended
from fourfaces.notation import show_machine, show_program, show_rows, show_sheet
from fourfaces.playing import played, trace_of
from fourfaces.programs import Program
from fourfaces.readers import read_machine, read_program, read_rows, read_sheet
from fourfaces.rings import crossing, is_crossing
from fourfaces.rows import renamed
from fourfaces.runs import is_beginning, is_run, runs
from fourfaces.tables import machine_from, table_of
from fourfaces.torn import run_fits
from fourfaces.versions import version_behind
from fourfaces.watches import are_sides, sides, silent_round, tells_beginnings, tells_runs, two_beginnings, two_runs
from fourfaces.ways import exit_trace, exits, loss_trace, losses, lost_behind
from fourfaces.worlds import is_trace, trace_world, whole_world


def programs(many, size=20):
    for seed in range(many):
        luck = samples.dice(seed)
        sheet = samples.random_sheet(luck, 2, 2)
        yield luck, samples.small_program(luck, sheet, size)


class Guarantees(unittest.TestCase):
    def test_1_four_faces(self):
        """From the text to the tree, the machine, the log book, and back to a text that shows the same."""
        for luck, program in programs(40, 12):
            text, sheet = show_program(program), read_sheet(show_sheet(program.sheet))
            again = read_program(sheet, text)
            machine = read_machine(sheet, show_machine(machine_of(again)))
            book = learned(machine)
            back = machine_from(table_led(book))
            self.assertTrue(again == program and show_same(machine, back))
            tree = Program(sheet, tree_of(machine))
            self.assertTrue(machine_of(read_program(sheet, show_program(tree))) == machine)

    def test_5_worlds(self):
        for luck, program in programs(60):
            sheet, machine = program.sheet, machine_of(program)
            world, can = whole_world(sheet), can_be(sheet)
            self.assertTrue(world.keeps())
            self.assertEqual([world.answers(state) for state in range(len(world))], can)
            keeping = samples.keeping_world(luck, sheet)
            for state in range(len(keeping)):
                self.assertIn(keeping.answers(state), can)
                trace = trace_of(machine, keeping, state)
                self.assertTrue(is_trace(sheet, trace) and machine.goes_along(trace))
            for trace, _ in oracle.traces(oracle.Ground(sheet), machine, 2)[:15]:
                led = trace_world(sheet, trace)
                self.assertTrue(led.keeps())
                told = trace_of(machine, led, 0)
                self.assertEqual(told[1][:len(trace[1])], trace[1])

    def test_6_trees(self):
        for luck, program in programs(60):
            machine = machine_of(program)
            self.assertIsNone(crossing(machine))
            self.assertTrue(machine_of(Program(program.sheet, tree_of(machine))) == machine)
            other = samples.random_machine(luck, program.sheet, 6)
            kind, told = raised(tree_of, other)
            self.assertEqual(kind is NoTree, crossing(other) is not None)
            if kind is NoTree:
                self.assertTrue(is_crossing(other, told["crossing"]))
            else:
                self.assertTrue(machine_of(Program(program.sheet, told)) == other)

    def test_7_the_same(self):
        seen = set()
        for luck, program in programs(60):
            one = machine_of(program)
            for other in (machine_from(table_of(one)), samples.lively_machine(luck, program.sheet, 4), machine_of(Program(program.sheet, tree_of(one)))):
                same = show_same(one, other)
                self.assertIs(table_of(one) == table_of(other), same)
                self.assertIs(pairs(one, other) is not None, same)
                if same:
                    self.assertTrue(are_pairs(one, other, pairs(one, other)))
                else:
                    trace = parting(one, other)
                    self.assertTrue(is_parting(one, other, trace))
                    world = trace_world(program.sheet, trace)
                    ends = [(turns[:len(trace[1]) + 1], end) for turns, end in (played(machine, world, 0) for machine in (one, other))]
                    self.assertNotEqual(self.next_step(ends[0], trace), self.next_step(ends[1], trace))
                seen.add(same)
        self.assertEqual(len(seen), 2)

    def next_step(self, told, trace):
        """What a run does behind the turns of a trace: its next step, or its end."""
        turns, end = told
        self.assertEqual([turn[:2] for turn in turns[:len(trace[1])]], [turn[:2] for turn in trace[1]])
        return turns[-1][0] if len(turns) > len(trace[1]) else self.end_of(turns, end)

    def end_of(self, turns, end):
        return turns[end[1]][0] if end[0] == "ring" else end

    def test_8_log_books(self):
        for luck, program in programs(40, 12):
            machine = machine_of(program)
            book = learned(machine)
            self.assertIsNone(book.gap())
            self.assertTrue(is_learned(machine, book) and book.agrees(machine))
            self.assertTrue(table_led(book) == table_of(machine))

    def test_9_watches(self):
        for luck, program in programs(60, 12):
            machine = machine_of(program)
            words = machine.marks()
            told = {}
            for many in range(len(words) + 1):
                for watch in combinations(words, many):
                    told[watch] = (tells_runs(machine, watch), tells_beginnings(machine, watch))
                    self.check_watch(machine, watch, told[watch])
            for watch in told:
                for other in told:
                    if set(watch) <= set(other):
                        self.assertTrue(told[watch][0] <= told[other][0] and told[watch][1] <= told[other][1])

    def check_watch(self, machine, watch, told):
        points, closed = machine.points(), sides(machine, watch)
        self.assertTrue(are_sides(machine, watch, closed))
        outs = [side for side in closed if all(points[node[0]][0] == "out" for node in side)]
        alike = [side for side in closed if side[0][0] == side[1][0]]
        self.assertIs(told[0], not outs)
        self.assertIs(told[1], not alike and silent_round(machine, watch) is None)
        for tells, two, is_one in ((told[0], two_runs, is_run), (told[1], two_beginnings, is_beginning)):
            self.assertIs(two(machine, watch) is None, tells)
            if not tells:
                one, other = two(machine, watch)
                self.assertTrue(is_one(machine, one) and is_one(machine, other) and one != other)
                self.assertEqual(watching.log(machine, watch, one), watching.log(machine, watch, other))

    def test_10_torn_logs(self):
        seen = set()
        for luck, program in programs(60, 12):
            machine, watch = machine_of(program), ("u", "v")
            for torn in (["*"], ["?", "*"], ["u", "*", "v"], [], ["*", "v"]):
                many = count_runs(machine, watch, torn)
                first = first_runs(machine, watch, torn, 5)
                self.assertEqual(len(first), 5 if many is None else min(5, many))
                if many != 0:
                    self.assertEqual(first[0], least_run(machine, watch, torn))
                    sure, can = sure_points(machine, watch, torn), can_points(machine, watch, torn)
                    for point in range(len(machine)):
                        missed = missed_run(machine, watch, torn, point)
                        self.assertIs(missed is None, point in sure)
                        self.assertTrue(missed is None or run_fits(machine, watch, torn, missed) and point not in missed)
                        self.assertTrue(point in can or all(point not in run for run in first))
                short = [run for run in runs(machine, 8) if run_fits(machine, watch, torn, run)]
                self.assertTrue(many is None or len(short) <= many)
                seen.add("endless" if many is None else min(many, 2))
        self.assertGreaterEqual(len(seen), 3)

    def test_11_ways(self):
        many = 0
        for luck, program in programs(80):
            machine, ground = machine_of(program), oracle.Ground(program.sheet)
            for told in exits(machine):
                trace = exit_trace(machine, told)
                end = played(machine, trace_world(program.sheet, trace), 0)[1]
                self.assertEqual(end, ("out", told))
            for loss in losses(program):
                trace = loss_trace(program, loss)
                self.assertIn(loss, lost_behind(program, trace))
                many += 1
            for trace, _ in oracle.traces(ground, machine, 2)[:20]:
                for loss in lost_behind(program, trace):
                    self.assertIn(loss, losses(program))
                shown = machine.shows(trace)
                self.assertTrue(shown[0] != "out" or shown[1] in exits(machine))
        self.assertGreater(many, 5)

    def test_12_frames(self):
        many = 0
        for luck, program in programs(60):
            machine, world = machine_of(program), samples.keeping_world(luck, program.sheet)
            other = machine_from(table_of(machine))
            for state in range(len(world)):
                frame = Frame(machine, world, state)
                frame.go(luck.randrange(4))
                for one in carried(frame, other):
                    steps = [self.steps(copy, 40) for copy in (frame.copied(), one)]
                    self.assertEqual(steps[0][0][:8], steps[1][0][:8])
                    self.assertTrue(steps[0][1] == steps[1][1] or None in (steps[0][1], steps[1][1]))
                    many += 1
        self.assertGreater(many, 100)

    def steps(self, frame, most):
        """The steps that a frame does, with their outcomes, and the exit; None if it does not come to one."""
        points, done = frame.machine().points(), []
        for _ in range(most):
            row = points[frame.point()]
            if row[0] == "out":
                return done, row
            if row[0] == "do":
                done.append((row[1], frame.world().lead(frame.state(), row[1])[0]))
            frame.step()
        return done[:1 + most // 5], None

    def test_13_names(self):
        """Texts are looked at here; the other results in test_names."""
        for luck, program in programs(40):
            sheet, turned = program.sheet, program
            names = {"p": "pa", "q": "qa", "r": "ra"}
            for kind, some in (("ask", names), ("step", {"s": "sa", "t": "ta"}), ("mark", {"u": "ua", "v": "va", "w": "wa"}), ("label", {"k": "l", "l": "m", "m": "k"})):
                turned = turned.renamed(kind, some)
            self.assertEqual(show_machine(machine_of(program)).count("\n"), show_machine(machine_of(turned)).count("\n"))
            text, other = show_program(program), show_program(turned)
            self.assertEqual([line.split(" ")[0] for line in text.split("\n")], [line.split(" ")[0] for line in other.split("\n")])
            self.assertEqual([fewest(line + "\n") for line in text.split("\n")], [fewest(line + "\n") for line in other.split("\n")])
            self.assertEqual([Desk(turned).execute(word) for word in ("losses", "points")], [Desk(program).execute(word) for word in ("losses", "points")])
            self.assertEqual(can_be(turned.sheet), can_be(sheet))
            deed = ("renamed", "mark", "u", "a")
            if "u" in program.names_in("mark") and "a" not in program.names_in("mark"):
                self.assertTrue(version_behind(program, deed).rows() == renamed(program.rows(), "mark", {"u": "a"}))

    def test_14_texts(self):
        seen = {}
        for luck, program in programs(60):
            text = show_program(program)
            self.assertTrue(read_program(program.sheet, text) == program)
            self.assertEqual(seen.setdefault(text, (program.rows(), program.procedures())), (program.rows(), program.procedures()))
            rows = show_rows(program.rows()).split("\n")[:-1][:9]
            torn = "".join(line + "\n" for line in rows)
            for some in [torn] + texts.torn_texts(luck, torn)[-3:]:
                if some.count("\n") <= 12:
                    found = mend(some)
                    self.assertTrue(closes(mended(some, found)) and is_floor(some, floor(some)))
                    self.assertEqual([cost(found), floor(some)["rows", 0, some.count("\n")]], [fewest(some), fewest(some)])
                    self.assertIs(closes(some), fewest(some) == 0)
            self.assertEqual(forms(read_rows(show_rows(program.rows()))), forms(program.rows()))

    def test_3_what_is_passed_stays(self):
        for luck, program in programs(30):
            machine = machine_of(program)
            before = [show_program(program), show_machine(machine)]
            book = Book(program)
            for deed in (("tree",), ("text", before[0]), ("machine", tuple(machine.points())), ("rows", "zz", ())):
                book.do(deed)
            book.undo()
            self.assertEqual([show_program(program), show_machine(machine)], before)
            self.assertTrue(Machine(program.sheet, machine.points()) == machine and book.past(0) == program)


if __name__ == "__main__":
    unittest.main()
