"""What laying out and the ways need of programs."""

import unittest

import samples
from checks import raised
from fourfaces.errors import NoProcedure, NoRow, Ring, Unknown, Wrong
from fourfaces.programs import Program
from fourfaces.rows import paths, row_at
from fourfaces.sheets import Sheet

SHEET = Sheet(["c"], [("p", ["c"])], [("s", ["c"], ["bad", "ok"])])
ROWS = (("loop", "l", (("do", "s", (("bad", (("leave", "l"),)),)), ("call", "n"))), ("stop", "done"))
MARK = ("mark", "w")


class Made(unittest.TestCase):
    def test_what_it_tells(self):
        program = Program(SHEET, ROWS, {"z": (MARK,), "n": ()})
        self.assertIs(program.sheet == SHEET, True)
        self.assertEqual([program.rows(), program.rows(""), program.rows("n"), program.rows("z")], [ROWS, ROWS, (), (MARK,)])
        self.assertEqual(program.procedures(), {"n": (), "z": (MARK,)})
        self.assertEqual(list(program.procedures()), ["n", "z"])
        told = [("", path) for path in paths(ROWS)] + [("z", (0,))]
        self.assertEqual([program.addresses(), len(program)], [told, 6])

    def test_the_empty_program(self):
        for program in (Program(SHEET, ()), Program(SHEET, (), None), Program(SHEET, (), {})):
            self.assertEqual([program.rows(), program.procedures(), program.addresses(), len(program)], [(), {}, [], 0])

    def test_procedures_are_copied(self):
        procedures = {"n": (MARK,)}
        program = Program(SHEET, (("call", "n"),), procedures)
        procedures.clear()
        program.procedures().clear()
        program.addresses().clear()
        self.assertEqual([program.procedures(), len(program)], [{"n": (MARK,)}, 2])

    def test_no_such_procedure(self):
        program = Program(SHEET, ROWS, {"n": ()})
        for thing in samples.ODDITIES + ["x", "N", ("n",)]:
            if thing != "":
                kind, fields = raised(program.rows, thing)
                self.assertIs(kind, NoProcedure)
                self.assertIs(fields["name"], thing)

    def test_row_at(self):
        program = Program(SHEET, ROWS, {"n": (MARK,)})
        for name, path in program.addresses():
            self.assertEqual(program.row_at((name, path)), row_at(program.rows(name), path))
        for thing in samples.ODDITIES + [("", (9,)), ("x", (0,)), ("n", (1,)), ("", ()), ["", (0,)], ("", [0]), (0,),
                                         ("", (0, 0, True)), ("", (False,)), ("", (0,), 0), (None, (0,)), (["n"], (0,))]:
            if thing != ("", (0,)):
                kind, fields = raised(program.row_at, thing)
                self.assertIs(kind, NoRow)
                self.assertIs(fields["path"], thing)

    def test_equal(self):
        one = Program(SHEET, ROWS, {"n": (), "z": (MARK,)})
        self.assertIs(one == Program(SHEET, ROWS, {"z": (MARK,), "n": ()}), True)
        self.assertIs(Program(SHEET, ()) == Program(SHEET, (), {}), True)
        others = [Program(SHEET, ROWS[:1], {"n": (), "z": (MARK,)}), Program(SHEET, ROWS, {"n": ()}),
                  Program(SHEET, ROWS, {"n": (), "z": ()}), Program(SHEET, ROWS, {"n": (), "y": (MARK,)}),
                  Program(SHEET.with_fact(("never", (("p", True),))), ROWS, {"n": (), "z": (MARK,)})]
        for other in others + samples.ODDITIES + [SHEET, ROWS]:
            self.assertIs(one == other, False)
            self.assertIs(one != other, True)


class WrongThings(unittest.TestCase):
    def test_wrong(self):
        for thing in samples.ODDITIES:
            self.assertEqual(raised(Program, thing, ROWS), (Wrong, {"place": 0}))
            self.assertEqual(raised(Program, thing, None, 0), (Wrong, {"place": 0}))
            if thing != ():
                self.assertEqual(raised(Program, SHEET, thing), (Wrong, {"place": 1}))
                self.assertEqual(raised(Program, SHEET, thing, 0), (Wrong, {"place": 1}))
        for thing in [0, True, "", (), [], {"n": None}, {"n": []}, {"": ()}, {"N": ()}, {0: ()}, {("n",): ()},
                      {"n": MARK}, {"n": (), "z": (None,)}, (("n", ()),), {None: ()}]:
            self.assertEqual(raised(Program, SHEET, ROWS, thing), (Wrong, {"place": 2}))

    def test_unknown(self):
        cases = [
            (("do", "x", ()), True), (("do", "s", (("no", ()),)), True), (("do", "s", (("bad", ()), ("no", ()))), True),
            (("if", "q", (), ()), True), (("call", "x"), True), (("call", "s"), True), (("leave", "l"), True),
            (("again", "l"), True), (("do", "p", ()), True), (("if", "s", (), ()), True), (("do", "s", ()), False),
            (("if", "p", (), ()), False), (("call", "n"), False), (MARK, False), (("raise", "e"), False),
        ]
        for row, unknown in cases:
            told = raised(Program, SHEET, (MARK, row), {"n": ()})
            self.assertEqual(told[0], Unknown if unknown else "returned")
            if unknown:
                self.assertEqual(told[1], {"address": ("", (1,))})
                self.assertEqual(raised(Program, SHEET, (), {"n": (MARK, MARK, row)}), (Unknown, {"address": ("n", (2,))}))

    def test_labels(self):
        right = [("loop", "l", (("leave", "l"), ("again", "l"))), ("block", "l", (("leave", "l"),)),
                 ("loop", "l", (("block", "l", (("again", "l"),)),)),
                 ("loop", "k", (("block", "l", (("leave", "k"), ("again", "k"))),)),
                 ("loop", "l", (("try", (("leave", "l"),), ((("e",), (("again", "l"),)),), (("leave", "l"),)),)),
                 ("block", "l", (("if", "p", (), (("do", "s", (("ok", (("leave", "l"),)),)),)),))]
        for row in right:
            self.assertEqual(raised(Program, SHEET, (row,))[0], "returned")
        wrong = [(("block", "l", (("again", "l"),)), (0, 0, 0)), (("loop", "k", (MARK, ("leave", "l"))), (0, 0, 1)),
                 (("loop", "k", (("block", "l", (("again", "l"),)),)), (0, 0, 0, 0, 0))]
        for row, path in wrong:
            self.assertEqual(raised(Program, SHEET, (row,)), (Unknown, {"address": ("", path)}))
        self.assertEqual(raised(Program, SHEET, (("loop", "l", ()), ("leave", "l"))), (Unknown, {"address": ("", (1,))}))

    def test_an_ask_or_a_step_is_no_label(self):
        for kind in ("leave", "again"):
            told = raised(Program, SHEET, (("if", "p", ((kind, "p"),), ()),))
            self.assertEqual(told, (Unknown, {"address": ("", (0, 0, 0))}))
            told = raised(Program, SHEET, (("do", "s", (("ok", ((kind, "s"),)),)),))
            self.assertEqual(told, (Unknown, {"address": ("", (0, 0, 0))}))
            told = raised(Program, SHEET, (("loop", "l", (("mark", "p"), ("if", "p", (), ((kind, "p"),)))),))
            self.assertEqual(told, (Unknown, {"address": ("", (0, 0, 1, 1, 0))}))

    def test_labels_do_not_lead_out_of_a_procedure(self):
        told = raised(Program, SHEET, (("loop", "l", (("call", "n"),)),), {"n": (("leave", "l"),)})
        self.assertEqual(told, (Unknown, {"address": ("n", (0,))}))

    def test_the_least_unknown(self):
        rows = (("block", "k", (MARK, ("leave", "l"))), ("do", "x", ()))
        self.assertEqual(raised(Program, SHEET, rows, {"a": (("do", "x", ()),)}), (Unknown, {"address": ("", (0, 0, 1))}))
        procedures = {"z": (("do", "x", ()),), "b": (MARK, ("call", "y")), "c": (("call", "y"),)}
        self.assertEqual(raised(Program, SHEET, (), procedures), (Unknown, {"address": ("b", (1,))}))
        rows = (("if", "q", (("do", "x", ()),), ()),)
        self.assertEqual(raised(Program, SHEET, rows), (Unknown, {"address": ("", (0,))}))

    def test_rings(self):
        procedures = {"a": (("call", "d"),), "d": (("call", "c"),), "c": (("call", "d"),)}
        self.assertEqual(raised(Program, SHEET, (), procedures), (Ring, {"name": "c"}))
        self.assertEqual(raised(Program, SHEET, (), {"a": (("call", "a"),)}), (Ring, {"name": "a"}))
        procedures = {"z": (("loop", "l", (("call", "y"),)),), "y": (("if", "p", (), (("call", "x"),)),), "x": (("call", "z"),)}
        self.assertEqual(raised(Program, SHEET, (), procedures), (Ring, {"name": "x"}))
        self.assertEqual(raised(Program, SHEET, (("do", "x", ()),), procedures), (Unknown, {"address": ("", (0,))}))
        straight = {"a": (("call", "b"), ("call", "c")), "b": (("call", "c"),), "c": ()}
        self.assertEqual(raised(Program, SHEET, (("call", "a"),), straight)[0], "returned")


if __name__ == "__main__":
    unittest.main()
