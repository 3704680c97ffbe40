"""Programs: what they are made of, what they tell, and programs that are changed."""

import unittest

import samples
from checks import forms, raised
from fourfaces.errors import NoProcedure, NoRow, Ring, Unknown, Wrong
from fourfaces.programs import Program
from fourfaces.rows import changed, names_in, out, paths, put, renamed, row_at
from fourfaces.sheets import Sheet

SHEET = Sheet(["c"], [("p", ["c"])], [("s", ["c"], ["bad", "ok"])])
ROWS = (("loop", "l", (("do", "s", (("bad", (("leave", "l"),)),)), ("call", "n"))), ("stop", "done"))
MARK = ("mark", "w")


class Made(unittest.TestCase):
    def test_what_it_tells(self):
        program = Program(SHEET, ROWS, {"z": (MARK,), "n": ()})
        self.assertIs(program.sheet == SHEET, True)
        self.assertEqual([program.rows(), program.rows(""), program.rows("n"), program.rows("z")], [ROWS, ROWS, (), (MARK,)])
        self.assertEqual(program.procedures(), {"n": (), "z": (MARK,)})
        self.assertEqual(list(program.procedures()), ["n", "z"])
        told = [("", path) for path in paths(ROWS)] + [("z", (0,))]
        self.assertEqual([program.addresses(), len(program)], [told, 6])

    def test_the_empty_program(self):
        for program in (Program(SHEET, ()), Program(SHEET, (), None), Program(SHEET, (), {})):
            self.assertEqual([program.rows(), program.procedures(), program.addresses(), len(program)], [(), {}, [], 0])

    def test_procedures_are_copied(self):
        procedures = {"n": (MARK,)}
        program = Program(SHEET, (("call", "n"),), procedures)
        procedures.clear()
        program.procedures().clear()
        program.addresses().clear()
        self.assertEqual([program.procedures(), len(program)], [{"n": (MARK,)}, 2])

    def test_no_such_procedure(self):
        program = Program(SHEET, ROWS, {"n": ()})
        for thing in samples.ODDITIES + ["x", "N", ("n",)]:
            if thing != "":
                kind, fields = raised(program.rows, thing)
                self.assertIs(kind, NoProcedure)
                self.assertIs(fields["name"], thing)

    def test_row_at(self):
        program = Program(SHEET, ROWS, {"n": (MARK,)})
        for name, path in program.addresses():
            self.assertEqual(program.row_at((name, path)), row_at(program.rows(name), path))
        for thing in samples.ODDITIES + [("", (9,)), ("x", (0,)), ("n", (1,)), ("", ()), ["", (0,)], ("", [0]), (0,),
                                         ("", (0, 0, True)), ("", (False,)), ("", (0,), 0), (None, (0,)), (["n"], (0,))]:
            if thing != ("", (0,)):
                kind, fields = raised(program.row_at, thing)
                self.assertIs(kind, NoRow)
                self.assertIs(fields["path"], thing)

    def test_equal(self):
        one = Program(SHEET, ROWS, {"n": (), "z": (MARK,)})
        self.assertIs(one == Program(SHEET, ROWS, {"z": (MARK,), "n": ()}), True)
        self.assertIs(Program(SHEET, ()) == Program(SHEET, (), {}), True)
        others = [Program(SHEET, ROWS[:1], {"n": (), "z": (MARK,)}), Program(SHEET, ROWS, {"n": ()}),
                  Program(SHEET, ROWS, {"n": (), "z": ()}), Program(SHEET, ROWS, {"n": (), "y": (MARK,)}),
                  Program(SHEET.with_fact(("never", (("p", True),))), ROWS, {"n": (), "z": (MARK,)})]
        for other in others + samples.ODDITIES + [SHEET, ROWS]:
            self.assertIs(one == other, False)
            self.assertIs(one != other, True)


NESTED = Program(
    SHEET,
    (("loop", "l", (("do", "s", (("bad", (("leave", "l"),)), ("ok", (("block", "l", (
        ("again", "l"), ("leave", "l"))),)))), MARK)), ("stop", "done")),
    {"n": (("try", (("block", "k", (("leave", "k"),)),), ((("e",), (("raise", "f"),)),), (("if", "p", (), (MARK,)),)),)},
)
NO_ADDRESSES = samples.ODDITIES + [
    ("", (9,)), ("x", (0,)), ("n", (1,)), ("", ()), ["", (0,)], ("", [0]), (0,), ("", (0, 0, True)), ("", (False,)),
    ("", (0,), 0), (None, (0,)), (["n"], (0,)), ("", (-1,)), ("", (0, 0)), ("", (0, 1, 0)), ("n", (0, 3, 0)), ("N", (0,)),
    ("", "0"), ("", None), ("", (0, 0, 0, 0, 0, 0)), (("",), (0,)), (True, (0,)), (0, (0,)),
]
WRONG_ADDRESSES = [thing for thing in NO_ADDRESSES if thing != ("", (0,))]


class Around(unittest.TestCase):
    def test_the_example(self):
        sheet = Sheet(["c", "d"], [("q", ["d"]), ("p", ["c"])], [("s", ["c"], ["ok", "bad"]), ("t", [], ["ok"])])
        rows = (("loop", "l", (("do", "s", (("bad", (("leave", "l"),)),)), ("mark", "w"))), ("stop", "done"))
        program = Program(sheet, rows)
        self.assertEqual(program.around(("", (0, 0, 1))), [("", (0,))])
        self.assertEqual(program.led_to(("", (0, 0, 0, 0, 0))), ("", (0,)))
        self.assertEqual(program.names_in("mark"), ["w"])
        self.assertIs(program.out(("", (1,))) == program, False)

    def test_around(self):
        told = {
            ("", (0,)): [], ("", (1,)): [], ("", (0, 0, 1)): [("", (0,))], ("", (0, 0, 0)): [("", (0,))],
            ("", (0, 0, 0, 0, 0)): [("", (0,)), ("", (0, 0, 0))],
            ("", (0, 0, 0, 1, 0, 0, 1)): [("", (0,)), ("", (0, 0, 0)), ("", (0, 0, 0, 1, 0))],
            ("n", (0,)): [], ("n", (0, 0, 0, 0, 0)): [("n", (0,)), ("n", (0, 0, 0))],
            ("n", (0, 1, 0)): [("n", (0,))], ("n", (0, 2, 0, 1, 0)): [("n", (0,)), ("n", (0, 2, 0))],
        }
        for address, outer in told.items():
            self.assertEqual(forms(NESTED.around(address)), forms(outer))

    def test_led_to(self):
        told = {
            ("", (0, 0, 0, 0, 0)): ("", (0,)), ("", (0, 0, 0, 1, 0, 0, 0)): ("", (0,)),
            ("", (0, 0, 0, 1, 0, 0, 1)): ("", (0, 0, 0, 1, 0)), ("n", (0, 0, 0, 0, 0)): ("n", (0, 0, 0)),
        }
        for address in NESTED.addresses():
            self.assertEqual(forms(NESTED.led_to(address)), forms(told.get(address)))

    def test_led_to_the_innermost_one(self):
        rows = (("loop", "k", (("loop", "k", (("block", "k", (("again", "k"), ("leave", "k"))), ("leave", "k"))),
                               ("again", "k"))),)
        program = Program(SHEET, rows)
        told = [program.led_to(("", path)) for path in [(0, 0, 0, 0, 0, 0, 0), (0, 0, 0, 0, 0, 0, 1), (0, 0, 0, 0, 1), (0, 0, 1)]]
        self.assertEqual(told, [("", (0, 0, 0)), ("", (0, 0, 0, 0, 0)), ("", (0, 0, 0)), ("", (0,))])

    def test_no_such_row(self):
        for thing in WRONG_ADDRESSES:
            for ask in (NESTED.row_at, NESTED.around, NESTED.led_to):
                kind, fields = raised(ask, thing)
                self.assertIs(kind, NoRow)
                self.assertIs(fields["path"], thing)
                self.assertEqual(list(fields), ["path"])

    def test_compared_with_the_rows(self):
        for seed in range(60):
            luck = samples.dice(seed)
            program = samples.random_program(luck, samples.random_sheet(luck))
            for name, path in program.addresses():
                outer = program.around((name, path))
                self.assertEqual(outer, [one for one in program.addresses() if one[0] == name and len(one[1]) < len(path)
                                         and path[:len(one[1])] == one[1]])
                row, wanted = program.row_at((name, path)), None
                for one in outer:
                    other = program.row_at(one)
                    if row[0] in ("leave", "again") and other[0] in ("loop", "block") and other[1] == row[1]:
                        if row[0] == "leave" or other[0] == "loop":
                            wanted = one
                self.assertEqual(program.led_to((name, path)), wanted)

    def test_names_in(self):
        told = {"step": ["s"], "outcome": ["bad", "ok"], "ask": ["p"], "mark": ["w"], "label": ["k", "l"],
                "error": ["e", "f"], "stop": ["done"], "call": []}
        for kind, names in told.items():
            self.assertEqual(NESTED.names_in(kind), names)
        called = Program(SHEET, (("call", "z"), ("mark", "v")), {"z": (("call", "n"), ("mark", "v")), "n": (MARK,)})
        self.assertEqual([called.names_in("call"), called.names_in("mark")], [["n", "z"], ["v", "w"]])
        self.assertEqual(Program(SHEET, ()).names_in("mark"), [])


class Changed(unittest.TestCase):
    def test_with_rows(self):
        program = Program(SHEET, ROWS, {"n": (MARK,)})
        self.assertTrue(program.with_rows("", (MARK,)) == Program(SHEET, (MARK,), {"n": (MARK,)}))
        self.assertTrue(program.with_rows("n", ()) == Program(SHEET, ROWS, {"n": ()}))
        self.assertTrue(program.with_rows("a", (("call", "n"),)) == Program(SHEET, ROWS, {"a": (("call", "n"),), "n": (MARK,)}))
        self.assertEqual(list(program.with_rows("a", ()).procedures()), ["a", "n"])
        self.assertEqual([program.rows(), program.procedures()], [ROWS, {"n": (MARK,)}])

    def test_with_rows_wrong(self):
        program = Program(SHEET, ROWS, {"n": (MARK,)})
        for thing in samples.ODDITIES + [SHEET, program, "N", ("n",)]:
            if not (isinstance(thing, str) and thing in ("", "a", "abcdefgh", "end")):
                self.assertEqual(raised(program.with_rows, thing, (MARK,)), (Wrong, {"place": 0}))
                self.assertEqual(raised(program.with_rows, thing, None), (Wrong, {"place": 0}))
            if thing != ():
                for name in ("", "n", "new"):
                    self.assertEqual(raised(program.with_rows, name, thing), (Wrong, {"place": 1}))
        for thing in [[MARK], MARK, (("mark", "W"),), (MARK, None), (("if", True, (), ()),)]:
            self.assertEqual(raised(program.with_rows, "n", thing), (Wrong, {"place": 1}))
        self.assertEqual(raised(program.with_rows, "a", (MARK, ("call", "x"))), (Unknown, {"address": ("a", (1,))}))
        self.assertEqual(raised(program.with_rows, "n", (("call", "n"),)), (Ring, {"name": "n"}))
        self.assertEqual(raised(program.with_rows, "n", (("call", "n"), ("leave", "l"))), (Unknown, {"address": ("n", (1,))}))

    def test_without(self):
        program = Program(SHEET, (MARK,), {"n": (MARK,), "z": (("call", "n"),)})
        self.assertTrue(program.without("z") == Program(SHEET, (MARK,), {"n": (MARK,)}))
        self.assertTrue(program.without("z").without("n") == Program(SHEET, (MARK,)))
        self.assertEqual(raised(program.without, "n"), (Unknown, {"address": ("z", (0,))}))
        for thing in samples.ODDITIES + ["x", "N", ("n",), ["n"], {"n": ()}]:
            kind, fields = raised(program.without, thing)
            self.assertIs(kind, NoProcedure)
            self.assertIs(fields["name"], thing)

    def test_put_out_and_changed(self):
        row = ("raise", "e")
        for name, path in NESTED.addresses():
            rows = NESTED.rows(name)
            told = NESTED.put((name, path), row)
            self.assertEqual(told.rows(name), put(rows, path, row))
            behind = path[:-1] + (path[-1] + 1,)
            self.assertEqual(NESTED.put((name, behind), row).rows(name), put(rows, behind, row))
            self.assertEqual(NESTED.out((name, path)).rows(name), out(rows, path))
            for some in ((), (row,), (row, MARK)):
                told = NESTED.changed((name, path), some)
                self.assertEqual(told.rows(name), changed(rows, path, some))
                other = "n" if name == "" else ""
                self.assertEqual(told.rows(other), NESTED.rows(other))
                self.assertIs(told.sheet == SHEET, True)
        self.assertEqual(NESTED.rows()[1], ("stop", "done"))

    def test_put_into_no_rows(self):
        program = Program(SHEET, (), {"n": ()})
        self.assertTrue(program.put(("", (0,)), MARK) == Program(SHEET, (MARK,), {"n": ()}))
        self.assertTrue(program.put(("n", (0,)), MARK) == Program(SHEET, (), {"n": (MARK,)}))
        for address in [("", (1,)), ("n", (1,)), ("z", (0,)), ("n", ())]:
            self.assertEqual(raised(program.put, address, MARK), (NoRow, {"path": address}))
        self.assertEqual(raised(program.out, ("", (0,))), (NoRow, {"path": ("", (0,))}))

    def test_no_such_place(self):
        for thing in WRONG_ADDRESSES:
            for act in ((NESTED.out,), (NESTED.changed, ()), (NESTED.changed, (("call", "x"),))):
                kind, fields = raised(act[0], thing, *act[1:])
                self.assertIs(kind, NoRow)
                self.assertIs(fields["path"], thing)
            if thing not in [("n", (1,)), ("", (0, 0, 0, 0, 1))]:
                kind, fields = raised(NESTED.put, thing, ("call", "x"))
                self.assertIs(kind, NoRow)
                self.assertIs(fields["path"], thing)
        self.assertEqual(raised(NESTED.put, ("n", (2,)), MARK), (NoRow, {"path": ("n", (2,))}))

    def test_what_the_constructor_raises(self):
        self.assertEqual(raised(NESTED.put, ("", (1,)), ("call", "x")), (Unknown, {"address": ("", (1,))}))
        self.assertEqual(raised(NESTED.put, ("n", (0,)), ("call", "n")), (Ring, {"name": "n"}))
        self.assertEqual(raised(NESTED.changed, ("", (0,)), (("leave", "l"),)), (Unknown, {"address": ("", (0,))}))
        # the rows of the loop lose their label when the loop is exchanged by them
        inner = NESTED.row_at(("", (0,)))[2]
        self.assertEqual(raised(NESTED.changed, ("", (0,)), inner), (Unknown, {"address": ("", (0, 0, 0))}))

    def test_what_is_told_is_new(self):
        program = Program(SHEET, ROWS, {"n": (MARK,)})
        program.around(("", (0, 0, 0))).append(None)
        program.names_in("mark").append(None)
        self.assertEqual([program.around(("", (0, 0, 0))), program.names_in("mark")], [[("", (0,))], ["w"]])


class Renamed(unittest.TestCase):
    def test_in_the_sheet_too(self):
        sheet = Sheet(["c"], [("p", ["c"])], [("s", ["c"], ["bad", "ok"])], [("after", "s", "bad", "p", True)])
        rows = (("do", "s", (("bad", (("if", "p", (), ()),)), ("ok", ()))), ("call", "n"))
        program = Program(sheet, rows, {"n": (("do", "s", ()), ("if", "p", (), ()), ("raise", "p"))})
        told = program.renamed("step", {"s": "x"})
        self.assertTrue(told.sheet == sheet.renamed("step", {"s": "x"}))
        self.assertEqual(told.rows("n"), (("do", "x", ()), ("if", "p", (), ()), ("raise", "p")))
        told = program.renamed("ask", {"p": "q", "x": "y"})
        self.assertTrue(told.sheet == sheet.renamed("ask", {"p": "q"}))
        self.assertEqual(told.rows("n"), (("do", "s", ()), ("if", "q", (), ()), ("raise", "p")))
        told = program.renamed("outcome", {"bad": "zero"})
        self.assertEqual(told.sheet.outcomes("s"), ["ok", "zero"])
        self.assertEqual(told.rows()[0], ("do", "s", (("ok", ()), ("zero", (("if", "p", (), ()),)))))
        told = program.renamed("outcome", {"bad": "ok", "ok": "bad"})
        self.assertEqual(told.rows()[0], ("do", "s", (("bad", ()), ("ok", (("if", "p", (), ()),)))))
        self.assertEqual(told.sheet.facts(), [("after", "s", "ok", "p", True)])
        told = program.renamed("cell", {"c": "d", "p": "x"})
        self.assertTrue(told == Program(sheet.renamed("cell", {"c": "d"}), rows, program.procedures()))

    def test_the_sheet_stays(self):
        for kind in ("mark", "label", "error", "stop", "call"):
            told = NESTED.renamed(kind, {name: "new" + name[:1] for name in NESTED.names_in(kind)})
            self.assertTrue(told.sheet == SHEET)
            self.assertEqual(told.names_in(kind), ["new" + name[:1] for name in NESTED.names_in(kind)])
            self.assertEqual(told.rows(), renamed(NESTED.rows(), kind, {name: "new" + name[:1] for name in NESTED.names_in(kind)}))

    def test_procedures(self):
        program = Program(SHEET, (("call", "n"), MARK), {"n": (("call", "z"),), "z": (("mark", "n"),), "w": ()})
        told = program.renamed("call", {"n": "z", "z": "n", "mark": "x"})
        self.assertTrue(told == Program(SHEET, (("call", "z"), MARK), {"z": (("call", "n"),), "n": (("mark", "n"),), "w": ()}))
        self.assertEqual(list(told.procedures()), ["n", "w", "z"])
        # a procedure that nothing calls has its name, too
        self.assertEqual(list(program.renamed("call", {"w": "a"}).procedures()), ["a", "n", "z"])
        self.assertTrue(program.renamed("call", {}) == program)

    def test_back_again(self):
        for seed in range(60):
            luck = samples.dice(seed)
            program = samples.random_program(luck, samples.random_sheet(luck))
            for kind in ("step", "outcome", "ask", "mark", "label", "error", "stop", "call", "cell"):
                there = {name: name + "x" for name in "abcdefgklmnopqrstuvwxyz"}
                told = program.renamed(kind, there)
                self.assertTrue(told.renamed(kind, {there[name]: name for name in there}) == program)
                self.assertEqual(len(told), len(program))


class WrongThings(unittest.TestCase):
    def test_wrong(self):
        for thing in samples.ODDITIES:
            self.assertEqual(raised(Program, thing, ROWS), (Wrong, {"place": 0}))
            self.assertEqual(raised(Program, thing, None, 0), (Wrong, {"place": 0}))
            if thing != ():
                self.assertEqual(raised(Program, SHEET, thing), (Wrong, {"place": 1}))
                self.assertEqual(raised(Program, SHEET, thing, 0), (Wrong, {"place": 1}))
        for thing in [0, True, "", (), [], {"n": None}, {"n": []}, {"": ()}, {"N": ()}, {0: ()}, {("n",): ()},
                      {"n": MARK}, {"n": (), "z": (None,)}, (("n", ()),), {None: ()}]:
            self.assertEqual(raised(Program, SHEET, ROWS, thing), (Wrong, {"place": 2}))

    def test_unknown(self):
        cases = [
            (("do", "x", ()), True), (("do", "s", (("no", ()),)), True), (("do", "s", (("bad", ()), ("no", ()))), True),
            (("if", "q", (), ()), True), (("call", "x"), True), (("call", "s"), True), (("leave", "l"), True),
            (("again", "l"), True), (("do", "p", ()), True), (("if", "s", (), ()), True), (("do", "s", ()), False),
            (("if", "p", (), ()), False), (("call", "n"), False), (MARK, False), (("raise", "e"), False),
        ]
        for row, unknown in cases:
            told = raised(Program, SHEET, (MARK, row), {"n": ()})
            self.assertEqual(told[0], Unknown if unknown else "returned")
            if unknown:
                self.assertEqual(told[1], {"address": ("", (1,))})
                self.assertEqual(raised(Program, SHEET, (), {"n": (MARK, MARK, row)}), (Unknown, {"address": ("n", (2,))}))

    def test_labels(self):
        right = [("loop", "l", (("leave", "l"), ("again", "l"))), ("block", "l", (("leave", "l"),)),
                 ("loop", "l", (("block", "l", (("again", "l"),)),)),
                 ("loop", "k", (("block", "l", (("leave", "k"), ("again", "k"))),)),
                 ("loop", "l", (("try", (("leave", "l"),), ((("e",), (("again", "l"),)),), (("leave", "l"),)),)),
                 ("block", "l", (("if", "p", (), (("do", "s", (("ok", (("leave", "l"),)),)),)),))]
        for row in right:
            self.assertEqual(raised(Program, SHEET, (row,))[0], "returned")
        wrong = [(("block", "l", (("again", "l"),)), (0, 0, 0)), (("loop", "k", (MARK, ("leave", "l"))), (0, 0, 1)),
                 (("loop", "k", (("block", "l", (("again", "l"),)),)), (0, 0, 0, 0, 0))]
        for row, path in wrong:
            self.assertEqual(raised(Program, SHEET, (row,)), (Unknown, {"address": ("", path)}))
        self.assertEqual(raised(Program, SHEET, (("loop", "l", ()), ("leave", "l"))), (Unknown, {"address": ("", (1,))}))

    def test_an_ask_or_a_step_is_no_label(self):
        for kind in ("leave", "again"):
            told = raised(Program, SHEET, (("if", "p", ((kind, "p"),), ()),))
            self.assertEqual(told, (Unknown, {"address": ("", (0, 0, 0))}))
            told = raised(Program, SHEET, (("do", "s", (("ok", ((kind, "s"),)),)),))
            self.assertEqual(told, (Unknown, {"address": ("", (0, 0, 0))}))
            told = raised(Program, SHEET, (("loop", "l", (("mark", "p"), ("if", "p", (), ((kind, "p"),)))),))
            self.assertEqual(told, (Unknown, {"address": ("", (0, 0, 1, 1, 0))}))

    def test_labels_do_not_lead_out_of_a_procedure(self):
        told = raised(Program, SHEET, (("loop", "l", (("call", "n"),)),), {"n": (("leave", "l"),)})
        self.assertEqual(told, (Unknown, {"address": ("n", (0,))}))

    def test_the_least_unknown(self):
        rows = (("block", "k", (MARK, ("leave", "l"))), ("do", "x", ()))
        self.assertEqual(raised(Program, SHEET, rows, {"a": (("do", "x", ()),)}), (Unknown, {"address": ("", (0, 0, 1))}))
        procedures = {"z": (("do", "x", ()),), "b": (MARK, ("call", "y")), "c": (("call", "y"),)}
        self.assertEqual(raised(Program, SHEET, (), procedures), (Unknown, {"address": ("b", (1,))}))
        rows = (("if", "q", (("do", "x", ()),), ()),)
        self.assertEqual(raised(Program, SHEET, rows), (Unknown, {"address": ("", (0,))}))

    def test_rings(self):
        procedures = {"a": (("call", "d"),), "d": (("call", "c"),), "c": (("call", "d"),)}
        self.assertEqual(raised(Program, SHEET, (), procedures), (Ring, {"name": "c"}))
        self.assertEqual(raised(Program, SHEET, (), {"a": (("call", "a"),)}), (Ring, {"name": "a"}))
        procedures = {"z": (("loop", "l", (("call", "y"),)),), "y": (("if", "p", (), (("call", "x"),)),), "x": (("call", "z"),)}
        self.assertEqual(raised(Program, SHEET, (), procedures), (Ring, {"name": "x"}))
        self.assertEqual(raised(Program, SHEET, (("do", "x", ()),), procedures), (Unknown, {"address": ("", (0,))}))
        straight = {"a": (("call", "b"), ("call", "c")), "b": (("call", "c"),), "c": ()}
        self.assertEqual(raised(Program, SHEET, (("call", "a"),), straight)[0], "returned")


if __name__ == "__main__":
    unittest.main()
