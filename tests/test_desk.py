"""Desk: a book that is asked and changed by texts."""

import unittest

import samples
from checks import forms, is_just, raised
from fourfaces.book import Book
from fourfaces.desk import Desk
from fourfaces.errors import NoCommand, Nothing, Refused, Wrong
from fourfaces.laying import machine_of
from fourfaces.mending import fewest
from fourfaces.notation import show_machine, show_program, show_rows, show_sheet
from fourfaces.programs import Program
from fourfaces.sheets import Sheet
from fourfaces.watches import tells_beginnings, tells_runs
from fourfaces.ways import exits, losses

SHEET = Sheet(["c"], [("p", ["c"])], [("s", ["c"], ["bad", "ok"])])
PROGRAM = Program(SHEET, (("do", "s", (("bad", (("raise", "e"),)),)), ("mark", "u"), ("call", "n")), {"n": (("if", "p", (("stop", "w"),), ()),)})
ASKS = ["program", "machine", "sheet", "exits", "losses", "points", "tells runs", "tells runs u", "tells beginnings", "tells beginnings a u", "mend\nend\n"]


def told(deed):
    return (Refused, {"deed": deed})


class Asking(unittest.TestCase):
    def test_wrong_programs(self):
        for thing in samples.ODDITIES + [SHEET, Book(PROGRAM)]:
            self.assertEqual(raised(Desk, thing), (Wrong, {"place": 0}))

    def test_texts(self):
        desk = Desk(PROGRAM)
        self.assertEqual(desk.execute("program"), "program\ndo s of\ncase bad\nraise e\nend\nmark u\ncall n\nend\nprocedure n\nif p\nstop w\nelse\nend\nend\n")
        self.assertEqual(desk.execute("machine"), "do s bad=1 ok=2\nout raise e\nmark u 3\nask p 4 5\nout stop w\nout end\n")
        self.assertEqual(desk.execute("sheet"), "cell c\nask p c\nstep s c : bad ok\n")

    def test_numbers_and_exits(self):
        desk = Desk(PROGRAM)
        self.assertEqual([desk.execute(text) for text in ("exits", "losses", "points")], ["end, raise e, stop w", "0", "6"])
        rows = (("loop", "l", (("try", (("raise", "e"),), (), (("if", "p", (("leave", "l"),), (("again", "l"),)),)),)),)
        desk = Desk(Program(SHEET, rows))
        self.assertEqual([desk.execute(text) for text in ("exits", "losses", "points")], ["end", "2", "2"])
        desk = Desk(Program(SHEET, (("loop", "l", ()),)))
        self.assertEqual([desk.execute(text) for text in ("exits", "losses", "points", "machine")], ["", "0", "1", "round\n"])

    def test_watches(self):
        rows = (("if", "p", (("mark", "a"),), (("mark", "b"),)), ("mark", "c"))
        desk = Desk(Program(SHEET, rows))
        for text, answer in (("tells runs", "no"), ("tells runs a", "yes"), ("tells runs b c", "yes"), ("tells runs c", "no"), ("tells beginnings", "no"),
                             ("tells beginnings a", "yes"), ("tells beginnings c", "no"), ("tells runs x y", "no"), ("tells runs a b c", "yes")):
            self.assertEqual(desk.execute(text), answer, text)

    def test_mending(self):
        desk = Desk(PROGRAM)
        for rest, answer in (("", "0"), ("end\n", "1"), ("loop k\n" * 3, "3"), ("mark u\n", "0"), ("\n", "1"), ("what\nwhat\n", "2")):
            self.assertEqual(desk.execute("mend\n" + rest), answer)

    def test_random_programs(self):
        for seed in range(60):
            luck = samples.dice(seed)
            program = samples.small_program(luck, samples.random_sheet(luck, 2, 2))
            desk, machine = Desk(program), machine_of(program)
            texts = [show_program(program), show_machine(machine), show_sheet(program.sheet)]
            self.assertEqual([desk.execute(word) for word in ("program", "machine", "sheet")], texts)
            names = ["end" if told == ("end",) else told[0] + " " + told[1] for told in exits(machine)]
            self.assertEqual([desk.execute("exits"), desk.execute("losses")], [", ".join(names), str(len(losses(program)))])
            self.assertEqual(desk.execute("points"), str(len(machine)))
            for watch in ((), ("u",), ("v", "w")):
                words = "".join(" " + word for word in watch)
                self.assertEqual(desk.execute("tells runs" + words), "yes" if tells_runs(machine, watch) else "no")
                self.assertEqual(desk.execute("tells beginnings" + words), "yes" if tells_beginnings(machine, watch) else "no")
            text = show_rows(program.rows())[:luck.randrange(60)].rpartition("\n")
            self.assertEqual(desk.execute("mend\n" + text[0] + text[1]), str(fewest(text[0] + text[1])))
            self.assertTrue(desk.book() == Book(program))


class Changing(unittest.TestCase):
    def check(self, text, deed):
        """A text does just what a deed does."""
        desk, book = Desk(PROGRAM), Book(PROGRAM)
        self.assertEqual(desk.execute(text), "done", text)
        book.do(deed)
        self.assertTrue(desk.book() == book and desk.book().program() == book.program(), text)
        self.assertEqual(forms(desk.book().log()), forms([deed]))

    def test_deeds(self):
        self.check("put - 1\nmark x\n", ("put", ("", (1,)), ("mark", "x")))
        self.check("put - 0.0.0\nif p\nelse\nend\n", ("put", ("", (0, 0, 0)), ("if", "p", (), ())))
        self.check("put n 1\nloop k\nleave k\nend\n", ("put", ("n", (1,)), ("loop", "k", (("leave", "k"),))))
        self.check("changed - 1\n", ("changed", ("", (1,)), ()))
        self.check("changed - 0.0.0\nmark x\nmark y\n", ("changed", ("", (0, 0, 0)), (("mark", "x"), ("mark", "y"))))
        self.check("rows -\n", ("rows", "", ()))
        self.check("rows n\nmark x\n", ("rows", "n", (("mark", "x"),)))
        self.check("rows z\n", ("rows", "z", ()))
        self.check("out - 0", ("out", ("", (0,))))
        self.check("out n 0.0.0", ("out", ("n", (0, 0, 0))))
        self.check("tree", ("tree",))
        self.check("text\nprogram\nend\n", ("text", "program\nend\n"))
        for kind, elder, new in (("step", "s", "t"), ("outcome", "bad", "x"), ("ask", "p", "q"), ("cell", "c", "d"), ("mark", "u", "x"), ("error", "e", "f"),
                                 ("stop", "w", "x"), ("call", "n", "m")):
            self.check(f"renamed {kind} {elder} {new}", ("renamed", kind, elder, new))

    def test_without(self):
        desk = Desk(PROGRAM)
        self.assertEqual(raised(desk.execute, "without n"), told(("without", "n")))
        self.assertEqual([desk.execute("out - 2"), desk.execute("without n")], ["done", "done"])
        self.assertEqual(desk.book().program().procedures(), {})

    def test_undo_and_redo(self):
        desk = Desk(PROGRAM)
        for word in ("undo", "redo"):
            self.assertEqual(raised(desk.execute, word), (Nothing, {}))
        for text in ("put - 0\nmark x\n", "tree", "renamed mark u y", "text\nprogram\nend\n", "rows -\n"):
            desk.execute(text)
        words = ["rows", "text", "renamed", "tree", "put"]
        self.assertEqual([desk.execute("undo") for _ in words], words)
        self.assertEqual(raised(desk.execute, "undo"), (Nothing, {}))
        self.assertTrue(desk.book().program() == PROGRAM)
        self.assertEqual([desk.execute("redo") for _ in words], words[::-1])
        self.assertEqual(raised(desk.execute, "redo"), (Nothing, {}))

    def test_what_is_refused(self):
        desk = Desk(PROGRAM)
        desk.execute("tree")
        desk.execute("put - 0\nmark x\n")
        desk.execute("undo")
        book = desk.book()
        for text, deed in (("out - 9", ("out", ("", (9,)))), ("out - 0.0", ("out", ("", (0, 0)))), ("out zz 0", ("out", ("zz", (0,)))),
                           ("put - 0\ncall z\n", ("put", ("", (0,)), ("call", "z"))), ("changed - 0.1.2.3\n", ("changed", ("", (0, 1, 2, 3)), ())),
                           ("rows -\nleave l\n", ("rows", "", (("leave", "l"),))), ("without zz", ("without", "zz")),
                           ("renamed step zz y", ("renamed", "step", "zz", "y")), ("text\n", ("text", "")), ("text\nprogram\nend", ("text", "program\nend")),
                           ("text\nmend\nmend\n", ("text", "mend\nmend\n")), ("out - 999999999", ("out", ("", (999999999,))))):
            self.assertEqual(forms(raised(desk.execute, text)[1]), forms({"deed": deed}), text)
            self.assertIs(raised(desk.execute, text)[0], Refused)
        self.assertTrue(desk.book() == book)
        self.assertEqual(desk.execute("redo"), "put")

    def test_the_book_is_a_copy(self):
        desk = Desk(PROGRAM)
        desk.execute("tree")
        book = desk.book()
        self.assertTrue(is_just(book, Book))
        book.undo()
        book.do(("rows", "", ()))
        self.assertEqual([desk.book().log(), desk.execute("undo")], [[("tree",)], "tree"])
        self.assertEqual(desk.book().redo(), ("tree",))
        self.assertEqual(desk.execute("redo"), "tree")


class NoCommands(unittest.TestCase):
    def refuse(self, text):
        desk = Desk(PROGRAM)
        desk.execute("tree")
        self.assertEqual(raised(desk.execute, text), (NoCommand, {}), text)
        self.assertEqual([desk.book().log(), desk.execute("undo")], [[("tree",)], "tree"])

    def test_other_values(self):
        for thing in samples.ODDITIES + [b"tree", ["tree"], ("tree",)]:
            self.refuse(thing)

    def test_a_rest_too_many(self):
        for text in ASKS[:-1] + ["undo", "redo", "tree", "out - 0", "without n", "renamed mark u v"]:
            self.refuse(text + "\n")
            self.refuse(text + "\nmark u\n")
            self.refuse(text + " ")
            self.refuse(" " + text)

    def test_a_rest_that_lacks(self):
        for text in ("put - 0", "changed - 0", "rows -", "text", "mend", "rows n"):
            self.refuse(text)

    def test_rests_that_are_no_rows(self):
        for rest in ("mark u", "end\n", "loop k\n", "\n", "mark U\n", "program\nend\n"):
            for command in ("put - 0", "changed - 0", "rows -"):
                self.refuse(command + "\n" + rest)
        self.refuse("put - 0\n")
        self.refuse("put - 0\nmark u\nmark v\n")
        self.refuse("mend\nmark u")
        self.refuse("mend\nmark u\nend")

    def test_words_that_are_wrong(self):
        for text in ("out", "out -", "out - ", "out 0", "out - 00", "out - 01", "out - 0.", "out - .0", "out - 0..1", "out - 0 1", "out - -1", "out - 1000000000",
                     "out - 0.0000000000", "out N 0", "out n1 0", "out  - 0", "out - a", "out - 0.a", "out -n 0", "out  0", "without", "without -", "without N",
                     "without n n", "without  n", "renamed", "renamed mark u", "renamed mark u v w", "renamed marks u v", "renamed mark U v", "renamed mark u -",
                     "renamed rows u v", "rename mark u v", "name label l k", "tells", "tells ", "tells runs ", "tells runs u ", "tells runs v u", "tells runs u u", "tells runs U", "tells all u",
                     "tells  runs", "tells runs  u", "Tells runs", "tells beginnings b a", "tells beginnings -", "Program", "program ", "exit", "", " ", "done",
                     "mend u", "fact never p yes", "log", "machine 0", "points 1", "text a", "undo 1", "sheet sheet", "put", "rows"):
            self.refuse(text)
        for text in ("put -\nmark u\n", "put - 00\nmark u\n", "put 0\nmark u\n", "put - 0 \nmark u\n", "changed n\n", "changed - 0 0\n", "rows\n", "rows - 0\n",
                     "rows N\n", "rows \n", "text \nprogram\nend\n", "texts\n", "mend \n", "mend u\n", "put - 1000000000\nmark u\n", "\ntree", "\n", "\ntext\n",
                     "Put - 0\nmark u\n", "rows n m\n", "rows --\n", "out - 0\nmark u\n"):
            self.refuse(text)


if __name__ == "__main__":
    unittest.main()
