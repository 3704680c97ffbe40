"""Versions: deeds by their form, the Programs behind them, and what is refused."""

import unittest

import samples
from checks import is_just, raised
from fourfaces.alike import show_same
from fourfaces.errors import BadDeed, Refused
from fourfaces.laying import machine_of
from fourfaces.leading import is_tree_of
from fourfaces.learning import book_of, learned, table_led
from fourfaces.machines import Machine
from fourfaces.notation import show_program
from fourfaces.programs import Program
from fourfaces.rings import crossing
from fourfaces.rows import depth
from fourfaces.sheets import Sheet
from fourfaces.tables import machine_from, table_of
from fourfaces.versions import is_deed, version_behind

SHEET = Sheet(["c"], [("p", ["c"])], [("s", ["c"], ["bad", "ok"])], [("after", "s", "bad", "p", True)])
LOOP = ("loop", "l", (("do", "s", (("bad", (("leave", "l"),)),)), ("mark", "w")))
PROGRAM = Program(SHEET, (LOOP, ("call", "n"), ("stop", "done")), {"n": (("if", "p", (("raise", "e"),), ()),)})
END = ("out", ("end",))
BOOK = learned(machine_of(PROGRAM))
GOOD = [
    ("put", ("", (0,)), ("mark", "u")), ("put", ("n", (1,)), LOOP), ("out", ("", (1,))), ("changed", ("", (2,)), (LOOP, ("mark", "u"))),
    ("changed", ("n", (0, 0, 0)), ()), ("rows", "", ()), ("rows", "z", (("mark", "u"),)), ("without", "n"), ("text", "program\nend\n"),
    ("text", ""), ("text", "any \n thing"), ("tree",), ("machine", (END,)), ("machine", ()), ("machine", (None, [1], True)), ("log", BOOK),
    ("fact", ("never", (("p", False),))), ("forget", ("after", "s", "bad", "p", True)), ("renamed", "step", "s", "t"),
    ("renamed", "cell", "c", "d"), ("renamed", "label", "a", "a"), ("out", ("", ())), ("out", ("any Thing", (-1, 10 ** 59))),
    ("put", ("", ()), ("leave", "nowhere")),
]
BAD = [
    (), ("put",), ("undo",), ("put", ("", (0,))), ("put", ("", (0,)), ("mark", "U")), ("put", ("", (0,)), (("mark", "u"),)), ("put", ["", (0,)], ("mark", "u")),
    ("put", ("", [0]), ("mark", "u")), ("put", ("", (True,)), ("mark", "u")), ("put", (None, (0,)), ("mark", "u")), ("out", ("", (0,)), ()), ("out", (0,)),
    ("changed", ("", (0,)), ("mark", "u")), ("changed", ("", (0,)), [("mark", "u")]), ("changed", ("", (0,))), ("rows", "N", ()), ("rows", None, ()),
    ("rows", "n", None), ("rows", "-", ()), ("without", ""), ("without", "N"), ("without", None), ("without",), ("text", None), ("text",),
    ("text", "program\nend\n", None), ("tree", None), ("machine", [END]), ("machine", None), ("machine",), ("log", None), ("log", "log"), ("log", machine_of(PROGRAM)),
    ("fact", ("never", ())), ("fact", None), ("forget", ("after", "s", "bad", "p", 1)), ("forget",), ("renamed", "rows", "a", "b"), ("renamed", "step", "S", "t"),
    ("renamed", "step", "s", ""), ("renamed", "step", "s"), ("renamed", "step", "s", "t", "u"), ("renamed", None, "s", "t"), ["tree"], "tree", ("Tree",),
    ("renamed", ["step"], "s", "t"), ([], 1), (None,), (("tree",),),
]


class Deeds(unittest.TestCase):
    def test_forms(self):
        for deed in GOOD:
            self.assertIs(is_deed(deed), True, deed)
        for thing in BAD + samples.ODDITIES:
            self.assertIs(is_deed(thing), False, thing)
            self.assertEqual(raised(version_behind, PROGRAM, thing), (BadDeed, {}), thing)

    def test_twisted_deeds(self):
        for deed in GOOD:
            if deed[0] not in ("text", "machine", "log"):
                for thing in samples.twisted(deed):
                    kind, fields = raised(version_behind, PROGRAM, thing)
                    if is_deed(thing):
                        self.assertIn(kind, ("returned", Refused))
                        self.assertTrue(isinstance(thing, tuple) and len(thing) == len(deed))
                    else:
                        self.assertEqual((kind, fields), (BadDeed, {}))

    def test_a_truth_is_no_index_and_no_truth_of_facts(self):
        for deed in (("out", ("", (False,))), ("fact", ("never", (("p", 0),))), ("put", ("", (0, True, 0)), ("mark", "u"))):
            self.assertIs(is_deed(deed), False)


class Refusing(unittest.TestCase):
    def refused(self, deed, program=PROGRAM):
        kind, fields = raised(version_behind, program, deed)
        self.assertIs(kind, Refused, deed)
        self.assertEqual(list(fields), ["deed"])
        self.assertIs(fields["deed"], deed)

    def test_rows_that_are_not_there(self):
        for deed in (("out", ("", (9,))), ("out", ("", ())), ("out", ("q", (0,))), ("out", ("", (-1,))), ("put", ("", (4,)), ("mark", "u")),
                     ("put", ("z", (0,)), ("mark", "u")), ("changed", ("", (0, 0)), ()), ("without", "z"), ("without", "p")):
            self.refused(deed)

    def test_what_program_refuses(self):
        for deed in (("put", ("", (0,)), ("do", "t", ())), ("put", ("n", (0,)), ("call", "n")), ("changed", ("", (0,)), (("again", "l"),)),
                     ("rows", "", (("call", "z"),)), ("rows", "n", (("if", "q", (), ()),)), ("without", "n"), ("put", ("", (0, 0, 0, 0, 0)), ("leave", "k"))):
            self.refused(deed)

    def test_texts(self):
        for text in ("", "mark u\n", "program\nend", "program\ndo t\nend\n", "program\nend\nprocedure n\ncall n\nend\n"):
            self.refused(("text", text))

    def test_machines(self):
        cross = (("ask", "p", 1, 2), ("mark", "a", 2), ("mark", "b", 1))
        for points in ((), (None,), (END, END), ([END],), (("mark", "u", 7),), (("mark", "u", True), END), cross, (("mark", "u", 0), END)):
            self.refused(("machine", points))
        self.assertIsNotNone(crossing(Machine(SHEET, cross)))

    def test_log_books(self):
        other = Sheet(["c"], [("p", ["c"])], [("s", ["c"], ["bad", "ok"])])
        self.refused(("log", learned(machine_of(Program(other, ())))))
        machine = machine_of(Program(SHEET, (("do", "s", ()),)))
        book = book_of(machine, [((False,), []), ((True,), [])], [()])
        self.assertIsNotNone(book.gap())
        self.refused(("log", book), Program(SHEET, ()))

    def test_facts(self):
        self.refused(("fact", ("after", "t", "ok", "p", True)))
        self.refused(("fact", ("after", "s", "no", "p", True)))
        self.refused(("fact", ("never", (("q", True),))))
        self.refused(("forget", ("never", (("p", True),))))
        # behind it the step has no way on from any answers
        program = version_behind(PROGRAM, ("fact", ("after", "s", "ok", "p", True)))
        self.refused(("fact", ("after", "s", "ok", "p", False)), version_behind(program, ("fact", ("after", "s", "bad", "p", False))))
        self.refused(("fact", ("never", (("p", False),))), Program(Sheet([], [("p", [])], [], [("never", (("p", True),))]), ()))

    def test_names(self):
        for kind, elder, new in (("step", "t", "u"), ("step", "s", "s"), ("outcome", "ok", "bad"), ("outcome", "no", "yes"), ("ask", "q", "r"), ("ask", "p", "p"),
                                 ("cell", "d", "f"), ("cell", "c", "c"), ("mark", "u", "v"), ("mark", "w", "w"), ("label", "k", "m"), ("error", "f", "g"),
                                 ("stop", "w", "v"), ("stop", "done", "done"), ("call", "z", "y"), ("call", "n", "n")):
            self.refused(("renamed", kind, elder, new))

    def test_programs_without_a_machine(self):
        marks = (("mark", "u"),) * 60
        program = Program(SHEET, marks)
        self.refused(("rows", "", marks * 2), program)
        self.refused(("put", ("", (0,)), ("block", "k", marks)), program)
        self.assertEqual(len(version_behind(program, ("rows", "n", marks * 2))), 180)

    def test_a_bad_deed_is_told_first(self):
        self.assertEqual(raised(version_behind, PROGRAM, ("out", ("", (True,)))), (BadDeed, {}))


class Behind(unittest.TestCase):
    def check(self, deed, rows=None, procedures=None, sheet=SHEET, program=PROGRAM):
        new = version_behind(program, deed)
        self.assertTrue(is_just(new, Program))
        rows = program.rows() if rows is None else rows
        procedures = program.procedures() if procedures is None else procedures
        self.assertTrue(new == Program(sheet, rows, procedures), deed)
        return new

    def test_the_tree(self):
        mark = ("mark", "u")
        self.check(("put", ("", (0,)), mark), (mark,) + PROGRAM.rows())
        self.check(("put", ("", (3,)), mark), PROGRAM.rows() + (mark,))
        self.check(("put", ("n", (0, 0, 1)), mark), None, {"n": (("if", "p", (("raise", "e"), mark), ()),)})
        self.check(("out", ("", (0,))), PROGRAM.rows()[1:])
        self.check(("changed", ("", (0,)), (mark, mark)), (mark, mark) + PROGRAM.rows()[1:])
        self.check(("rows", "", (mark,)), (mark,))
        self.check(("rows", "z", (mark,)), None, {"n": PROGRAM.rows("n"), "z": (mark,)})
        self.check(("rows", "n", ()), None, {"n": ()})
        self.check(("without", "n"), (), {}, SHEET, Program(SHEET, (), {"n": ()}))

    def test_texts(self):
        self.check(("text", "program\nmark u\nend\nprocedure z\nend\n"), (("mark", "u"),), {"z": ()})
        self.check(("text", show_program(PROGRAM)))

    def test_tree_and_machine(self):
        new = version_behind(PROGRAM, ("tree",))
        self.assertEqual(new.procedures(), {})
        self.assertTrue(machine_of(new) == machine_of(PROGRAM) and is_tree_of(machine_of(PROGRAM), new.rows()))
        points = (("do", "s", (("bad", 0), ("ok", 1))), ("ask", "p", 2, 0), END)
        new = version_behind(PROGRAM, ("machine", points))
        self.assertEqual(new.procedures(), {})
        self.assertTrue(machine_of(new) == Machine(SHEET, points))

    def test_facts(self):
        fact = ("after", "s", "ok", "p", False)
        more = Sheet(["c"], [("p", ["c"])], [("s", ["c"], ["bad", "ok"])], SHEET.facts() + [fact])
        new = self.check(("fact", fact), None, None, more)
        self.check(("forget", fact), None, None, SHEET, new)
        self.check(("fact", SHEET.facts()[0]))

    def test_names(self):
        for kind, elder, new in (("step", "s", "t"), ("outcome", "bad", "z"), ("outcome", "ok", "a"), ("ask", "p", "q"), ("cell", "c", "d"), ("mark", "w", "a"),
                                 ("label", "l", "k"), ("error", "e", "f"), ("stop", "done", "w"), ("call", "n", "z")):
            behind = version_behind(PROGRAM, ("renamed", kind, elder, new))
            self.assertTrue(behind == PROGRAM.renamed(kind, {elder: new}))
            self.assertFalse(behind == PROGRAM)
            self.assertTrue(version_behind(behind, ("renamed", kind, new, elder)) == PROGRAM)
        # a name of the sheet alone, and a procedure that nothing calls
        self.assertEqual(version_behind(Program(SHEET, ()), ("renamed", "step", "s", "t")).sheet.steps()[0][0], "t")
        self.assertEqual(version_behind(Program(SHEET, ()), ("renamed", "ask", "p", "q")).sheet.names(), ["q"])
        self.assertEqual(version_behind(Program(SHEET, ()), ("renamed", "outcome", "ok", "x")).sheet.outcomes("s"), ["bad", "x"])
        self.assertEqual(version_behind(Program(SHEET, (), {"n": ()}), ("renamed", "call", "n", "m")).procedures(), {"m": ()})

    def test_random_deeds_of_the_tree(self):
        for seed in range(80):
            luck = samples.dice(seed)
            program = samples.small_program(luck, samples.random_sheet(luck, 2, 2))
            row = samples.Grower(luck, program.sheet, 3).row([], [], 2)
            for address in program.addresses():
                for deed, call in ((("out", address), lambda: program.out(address)), (("put", address, row), lambda: program.put(address, row)),
                                   (("changed", address, (row, row)), lambda: program.changed(address, (row, row)))):
                    kind, new = raised(version_behind, program, deed)
                    other, wanted = raised(call)
                    self.assertEqual(kind == "returned", other == "returned")
                    if kind == "returned":
                        self.assertTrue(new == wanted)


def branching_machine(luck, many):
    """A machine of steps alone."""
    sheet, points = Sheet([], [], [(name, [], ["a", "b", "o"]) for name in ("s", "t", "x", "y")]), []
    for _ in range(many):
        name, _, outcomes = luck.choice(sheet.steps())
        points.append(("do", name, tuple((end, luck.randrange(many)) for end in outcomes)))
    return Machine.made(sheet, points, 0)


class Logs(unittest.TestCase):
    def test_the_table_is_shown_again(self):
        new = version_behind(PROGRAM, ("log", BOOK))
        self.assertEqual(new.procedures(), {})
        self.assertTrue(table_of(machine_of(new)) == table_led(BOOK))

    def check(self, machine):
        program = Program(machine.sheet, (("mark", "u"),), {"n": ()})
        new = version_behind(program, ("log", learned(machine)))
        self.assertTrue(show_same(machine_of(new), machine))
        self.assertEqual([new.procedures(), self.kinds(new) & {"try", "call"}], [{}, set()])
        self.assertLessEqual(depth(new.rows()), 30)

    def kinds(self, program):
        return {program.row_at(address)[0] for address in program.addresses()}

    def test_machines_with_a_crossing(self):
        sheet = Sheet([], [], [(name, [], ["a", "b", "o"]) for name in ("s", "t", "x", "y")])
        points = [("do", "s", (("a", 1), ("b", 2), ("o", 3))), ("do", "t", (("a", 2), ("b", 3), ("o", 4))),
                  ("do", "x", (("a", 1), ("b", 3), ("o", 4))), ("do", "y", (("a", 4), ("b", 2), ("o", 1))), ("do", "s", (("a", 4), ("b", 3), ("o", 0)))]
        machine = Machine(sheet, points)
        self.assertIsNotNone(crossing(machine_from(table_of(machine))))
        self.check(machine)

    def test_random_machines(self):
        crossed = 0
        for seed in range(250):
            luck = samples.dice(seed)
            sheet = samples.still_sheet(luck)
            if seed % 2 == 0:
                machine = samples.lively_machine(luck, sheet, luck.randint(2, 8))
            else:
                machine = branching_machine(luck, luck.randint(3, 5))
            if len(table_of(machine)) <= 5:
                self.check(machine)
                crossed += crossing(machine_from(table_of(machine))) is not None
        self.assertGreater(crossed, 3)

    def test_small_ends(self):
        for points in ([END], [("round",)], [("out", ("raise", "e"))], [("out", ("stop", "w"))], [("do", "s", (("bad", 0), ("ok", 0)))]):
            self.check(Machine(SHEET, points))


if __name__ == "__main__":
    unittest.main()
