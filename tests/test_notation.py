"""Notation: texts of sheets, rows, programs, machines and traces, letter for letter."""

import unittest

import samples
from fourfaces.laying import machine_of
from fourfaces.machines import Machine
from fourfaces.notation import show_machine, show_program, show_rows, show_sheet, show_trace
from fourfaces.programs import Program
from fourfaces.rows import how_many
from fourfaces.sheets import Sheet

SHEET = Sheet(["c", "d"], [("q", ["d", "c"]), ("p", []), ("yes", ["c"])], [("s", ["d", "c"], ["ok", "bad"]), ("of", [], ["of"])],
              [("never", (("p", True), ("q", False))), ("after", "s", "ok", "p", False), ("after", "s", "bad", "yes", True)])


class Texts(unittest.TestCase):
    def test_sheets(self):
        text = ("cell c\ncell d\nask p\nask q c d\nask yes c\nstep of : of\nstep s c d : bad ok\nafter s bad yes yes\nafter s ok p no\n"
                "never p yes q no\n")
        self.assertEqual(show_sheet(SHEET), text)
        self.assertEqual(show_sheet(Sheet([], [], [])), "")

    def test_single_rows(self):
        rows = (("do", "s", ()), ("mark", "w"), ("leave", "l"), ("again", "l"), ("raise", "e"), ("stop", "w"), ("call", "n"))
        self.assertEqual(show_rows(rows), "do s\nmark w\nleave l\nagain l\nraise e\nstop w\ncall n\n")
        self.assertEqual(show_rows(()), "")

    def test_rows_with_bodies(self):
        mark = (("mark", "w"),)
        self.assertEqual(show_rows((("do", "s", (("bad", mark), ("ok", ()))),)), "do s of\ncase bad\nmark w\ncase ok\nend\n")
        self.assertEqual(show_rows((("if", "p", mark, ()),)), "if p\nmark w\nelse\nend\n")
        self.assertEqual(show_rows((("if", "p", (), mark),)), "if p\nelse\nmark w\nend\n")
        self.assertEqual(show_rows((("loop", "l", mark), ("block", "l", ()))), "loop l\nmark w\nend\nblock l\nend\n")
        rows = (("try", mark, ((("e", "f"), ()), ((), mark)), ()), ("try", (), (), mark))
        text = "try\nmark w\ncatch e f\ncatch\nmark w\nalways\nend\ntry\nalways\nmark w\nend\n"
        self.assertEqual(show_rows(rows), text)

    def test_rows_in_rows(self):
        rows = (("loop", "l", (("do", "s", (("bad", (("if", "p", (("leave", "l"),), ()),)),)), ("again", "l"))), ("stop", "done"))
        text = "loop l\ndo s of\ncase bad\nif p\nleave l\nelse\nend\nend\nagain l\nend\nstop done\n"
        self.assertEqual(show_rows(rows), text)

    def test_thirty_deep(self):
        rows = (("mark", "w"),)
        for _ in range(29):
            rows = (("try", rows, (), ()),)
        self.assertEqual(show_rows(rows), "try\n" * 29 + "mark w\n" + "always\nend\n" * 29)

    def test_programs(self):
        self.assertEqual(show_program(Program(SHEET, ())), "program\nend\n")
        program = Program(SHEET, (("call", "n"), ("mark", "u")), {"z": (("stop", "w"),), "n": (), "b": (("call", "z"),)})
        text = "program\ncall n\nmark u\nend\nprocedure b\ncall z\nend\nprocedure n\nend\nprocedure z\nstop w\nend\n"
        self.assertEqual(show_program(program), text)

    def test_machines(self):
        points = [("do", "s", (("bad", 1), ("ok", 2))), ("ask", "p", 3, 4), ("do", "of", (("of", 5),)), ("mark", "w", 6), ("out", ("raise", "e")),
                  ("round",), ("ask", "q", 7, 8), ("out", ("end",)), ("out", ("stop", "w"))]
        text = "do s bad=1 ok=2\nask p 3 4\ndo of of=5\nmark w 6\nout raise e\nround\nask q 7 8\nout end\nout stop w\n"
        self.assertEqual(show_machine(Machine(SHEET, points)), text)
        self.assertEqual(show_machine(Machine(SHEET, [("out", ("end",))])), "out end\n")
        chain = Machine(SHEET, [("mark", "u", at + 1) for at in range(11)] + [("round",)])
        self.assertEqual(show_machine(chain), "".join(f"mark u {at}\n" for at in range(1, 12)) + "round\n")

    def test_traces(self):
        trace = ((True, False, True), [("s", "bad", (False, False, True)), ("of", "of", (True, True, True))])
        text = "at yes no yes\ns bad no no yes\nof of yes yes yes\n"
        self.assertEqual(show_trace(trace), text)
        self.assertEqual(show_trace((trace[0], tuple(trace[1]))), text)
        self.assertEqual(show_trace(((), [])), "at\n")
        self.assertEqual(show_trace(((), [("s", "ok", ())])), "at\ns ok\n")

    def test_lines_and_blanks(self):
        for seed in range(80):
            luck = samples.dice(seed)
            program = samples.small_program(luck, samples.random_sheet(luck))
            machine = machine_of(program)
            texts = [show_sheet(program.sheet), show_rows(program.rows()), show_program(program), show_machine(machine)]
            for text in texts:
                self.assertTrue(text == "" or text.endswith("\n"))
                self.assertFalse("\n\n" in text or "  " in text or " \n" in text or "\n " in text)
            self.assertEqual(texts[3].count("\n"), len(machine))
            self.assertGreaterEqual(texts[1].count("\n"), how_many(program.rows()))
            parts = [program.rows()] + list(program.procedures().values())
            self.assertEqual(texts[2].count("\n"), sum(show_rows(rows).count("\n") + 2 for rows in parts))


if __name__ == "__main__":
    unittest.main()
