"""Readers: what texts are read as, and which line tells that something is none."""

import unittest

import oracle
import samples
import texts
from checks import forms, is_just, raised
from fourfaces.errors import NoText, Ring, Unknown
from fourfaces.laying import machine_of
from fourfaces.machines import Machine
from fourfaces.notation import show_machine, show_program, show_rows, show_sheet, show_trace
from fourfaces.programs import Program
from fourfaces.readers import read_machine, read_program, read_rows, read_sheet, read_trace
from fourfaces.rows import depth
from fourfaces.sheets import Sheet

SHEET = Sheet(["c"], [("p", ["c"])], [("s", ["c"], ["a", "b"])])
NO_TEXTS = [thing for thing in samples.ODDITIES if not isinstance(thing, str)] + [b"end\n", ["mark u\n"]]
READERS = [read_sheet, read_rows, read_trace, lambda text: read_program(SHEET, text), lambda text: read_machine(SHEET, text)]


def told(line):
    return (NoText, {"line": line})


def samples_of_programs(many):
    for seed in range(many):
        luck = samples.dice(seed)
        yield luck, samples.small_program(luck, samples.random_sheet(luck, 2, 2))


class AnyValues(unittest.TestCase):
    def test_no_string(self):
        for read in READERS:
            for thing in NO_TEXTS:
                self.assertEqual(forms(raised(read, thing)[1]["line"]), forms(0), thing)
                self.assertIs(raised(read, thing)[0], NoText)

    def test_a_lacking_line_feed(self):
        for read in READERS:
            for text in ("mark u", "mark u\nmark v", "end\n\nend", " ", "program\nend", "out end", "at", "cell c", "\n\nx"):
                self.assertEqual(raised(read, text), told(0), text)

    def test_empty_texts(self):
        self.assertEqual(read_rows(""), ())
        self.assertTrue(read_sheet("") == Sheet([], [], []))
        self.assertEqual(raised(read_program, SHEET, ""), told(0))
        self.assertEqual(raised(read_machine, SHEET, ""), told(0))
        self.assertEqual(raised(read_trace, ""), told(0))

    def test_a_line_feed_alone(self):
        self.assertEqual(raised(read_rows, "\n"), told(0))
        self.assertEqual(raised(read_program, SHEET, "\n"), told(0))
        for read in (read_sheet, read_trace, READERS[4]):
            self.assertEqual(raised(read, "\n"), told(1))


class Rows(unittest.TestCase):
    def test_all_kinds(self):
        text = ("do s\ndo s of\ncase a\nmark u\ncase b\nend\nif p\nelse\nraise e\nend\nloop k\nagain k\nend\nblock k\nleave k\nend\n"
                "try\nstop w\ncatch\ncatch e f\ncall n\nalways\nend\n")
        rows = (("do", "s", ()), ("do", "s", (("a", (("mark", "u"),)), ("b", ()))), ("if", "p", (), (("raise", "e"),)),
                ("loop", "k", (("again", "k"),)), ("block", "k", (("leave", "k"),)),
                ("try", (("stop", "w"),), (((), ()), (("e", "f"), (("call", "n"),))), ()))
        self.assertEqual(forms(read_rows(text)), forms(rows))
        self.assertEqual(show_rows(rows), text)

    def test_names_that_are_words_of_texts(self):
        text = "do of\ndo of of\ncase case\nmark end\nend\nif else\nelse\nend\nloop loop\nend\ntry\ncatch always catch end\nalways\nend\n"
        rows = read_rows(text)
        self.assertEqual(rows[:2], (("do", "of", ()), ("do", "of", (("case", (("mark", "end"),)),))))
        self.assertEqual(rows[4], ("try", (), ((("always", "catch", "end"), ()),), ()))
        self.assertEqual(show_rows(rows), text)

    def test_the_first_line_that_is_wrong(self):
        cases = [
            ("mark u\nend\n", 1), ("end\n", 0), ("else\n", 0), ("if p\nend\n", 1), ("if p\nelse\nelse\nend\n", 2), ("do s of\nend\n", 1),
            ("do s of\nmark u\ncase a\nend\n", 1), ("do s of\ncase b\ncase a\nend\n", 2), ("do s of\ncase a\ncase a\nend\n", 2),
            ("do s of\ncase ab\ncase a\nend\n", 2), ("do s of\ncase a\ncase ab\nend\n", None), ("try\nend\n", 1), ("catch e\n", 0),
            ("try\nalways\ncatch\nend\n", 2), ("try\nalways\nalways\nend\n", 2), ("try\ncatch f e\nalways\nend\n", 1),
            ("try\ncatch e e\nalways\nend\n", 1), ("mark U\n", 0), ("mark u \n", 0), ("mark  u\n", 0), (" mark u\n", 0), ("mark abcdefghi\n", 0),
            ("mark u\n\nmark v\n", 1), ("mark u\nprogram\n", 1), ("case a\n", 0), ("loop k\ncase a\nend\n", 1), ("mark u1\nend\n", 0),
        ]
        for text, line in cases:
            if line is None:
                self.assertEqual(raised(read_rows, text)[0], "returned", text)
            else:
                self.assertEqual(forms(raised(read_rows, text)[1]["line"]), forms(line), text)
            self.assertEqual(texts.misfit(text), line, text)

    def test_a_text_that_only_ends_too_soon(self):
        for text in ("loop k\n", "if p\n", "if p\nelse\n", "do s of\n", "do s of\ncase a\nmark u\n", "try\n", "try\ncatch e\n", "try\nalways\n",
                     "block k\nblock k\nend\n"):
            self.assertEqual(raised(read_rows, text), told(text.count("\n")), text)

    def test_thirty_deep(self):
        rows = (("mark", "w"),)
        for at in range(29):
            rows = [(("do", "s", (("a", rows),)),), (("if", "p", (), rows),), (("try", (), ((("e",), rows),), ()),)][at % 3]
        self.assertEqual(depth(rows), 30)
        self.assertEqual(read_rows(show_rows(rows)), rows)
        self.assertEqual(raised(read_rows, "loop k\n" * 29 + "mark w\n" + "end\n" * 30), told(59))
        self.assertEqual(raised(read_rows, "loop k\n" * 30 + "end\n" * 29), told(59))

    def test_random_texts(self):
        kinds = set()
        for luck, program in samples_of_programs(120):
            text = show_rows(program.rows())
            self.assertEqual(forms(read_rows(text)), forms(program.rows()))
            for torn in texts.torn_texts(luck, text):
                line = texts.misfit(torn)
                kind, fields = raised(read_rows, torn)
                self.assertEqual((kind, fields) if line is not None else kind, told(line) if line is not None else "returned", torn)
                if line is None:
                    self.assertEqual(show_rows(fields), torn)
                kinds.add((kind, line == torn.count("\n")))
        self.assertEqual(len(kinds), 3)

    def test_rows_of_any_names(self):
        """Steps, labels and procedures are not asked."""
        self.assertEqual(read_rows("leave k\ncall n\ndo zz\n"), (("leave", "k"), ("call", "n"), ("do", "zz", ())))


class Programs(unittest.TestCase):
    def test_with_procedures(self):
        text = "program\ncall n\ndo s\nend\nprocedure b\nend\nprocedure n\nmark u\ncall b\nend\n"
        program = read_program(SHEET, text)
        self.assertTrue(is_just(program, Program))
        self.assertTrue(program == Program(SHEET, (("call", "n"), ("do", "s", ())), {"n": (("mark", "u"), ("call", "b")), "b": ()}))
        self.assertEqual(show_program(program), text)

    def test_the_first_line_that_is_wrong(self):
        cases = [
            ("program\n", 1), ("program\nmark u\n", 2), ("mark u\n", 0), ("program\nend\nend\n", 2), ("program\nend\nmark u\n", 2),
            ("program\nend\nprocedure n\n", 3), ("program\nend\nprocedure n\nend\nprocedure n\nend\n", 4), ("procedure n\nend\n", 0),
            ("program\nend\nprocedure n\nend\nprocedure b\nend\n", 4), ("program\nprogram\nend\nend\n", 1), ("program p\nend\n", 0),
            ("program\nprocedure n\nend\nend\n", 1), ("program\nend\nprogram\nend\n", 2), ("program\nend\nprocedure N\nend\n", 2),
            ("program\nend\nprocedure n \nend\n", 2), ("program \nend\n", 0), ("program\ndo s of\nend\nend\n", 2), ("program\nend\n\n", 2),
            ("program\nloop k\nend\n", 3), ("program\nend\nprocedure end\nend\n", None), ("program\nend \n", 1),
        ]
        for text, line in cases:
            if line is None:
                self.assertEqual(raised(read_program, SHEET, text)[0], "returned", text)
            else:
                self.assertEqual(raised(read_program, SHEET, text), told(line), text)
            self.assertEqual(texts.misfit(text, True), line, text)

    def test_what_program_raises(self):
        self.assertEqual(raised(read_program, SHEET, "program\nmark u\ndo t\nend\n"), (Unknown, {"address": ("", (1,))}))
        self.assertEqual(raised(read_program, SHEET, "program\nleave k\nend\n"), (Unknown, {"address": ("", (0,))}))
        self.assertEqual(raised(read_program, SHEET, "program\ndo s of\ncase c\nend\nend\n"), (Unknown, {"address": ("", (0,))}))
        ring = "program\nend\nprocedure n\ncall z\nend\nprocedure z\ncall n\nend\n"
        self.assertEqual(raised(read_program, SHEET, ring), (Ring, {"name": "n"}))
        # the text is read first
        self.assertEqual(raised(read_program, SHEET, "program\ndo t\nend\nmark u\n"), told(3))
        self.assertEqual(raised(read_program, SHEET, ring + "call n\n"), told(8))

    def test_random_texts(self):
        kinds = set()
        for luck, program in samples_of_programs(120):
            text = show_program(program)
            self.assertTrue(read_program(program.sheet, text) == program)
            for torn in texts.torn_texts(luck, text):
                line = texts.misfit(torn, True)
                kind, fields = raised(read_program, program.sheet, torn)
                if line is None:
                    self.assertIn(kind, ("returned", Unknown, Ring))
                else:
                    self.assertEqual((kind, fields), told(line), torn)
                kinds.add((kind, line == torn.count("\n")))
        self.assertGreaterEqual(len(kinds), 4)


class Others(unittest.TestCase):
    def test_sheets(self):
        for seed in range(150):
            sheet = samples.random_sheet(samples.dice(seed), living=False)
            text = show_sheet(sheet)
            found = read_sheet(text)
            self.assertTrue(is_just(found, Sheet) and found == sheet)

    def test_texts_of_no_sheet(self):
        good = "cell c\nask p c\nstep s c : a b\nafter s a p yes\nnever p yes\n"
        self.assertEqual(show_sheet(read_sheet(good)), good)
        wrong = [
            "cell d\ncell c\n", "cell c\ncell c\n", "cell\n", "cell c d\n", "cell C\n", "cell abcdefghi\n", "ask p\ncell c\n", "ask p c\n", "ask\n",
            "cell c\ncell d\nask p d c\n", "cell c\nask p c c\n", "ask p\nask p\n", "ask q\nask p\n", "step s :\n", "step s\n", "step : a\n",
            "step s a\n", "step s : b a\n", "step s : a a\n", "step s : a : b\n", "step s : a\nask p\n", "step s  : a\n", "step s : a\nafter s a p yes\n",
            "ask p\nstep s : a\nafter s b p yes\n", "ask p\nstep s : a\nafter t a p yes\n", "ask p\nstep s : a\nafter s a p true\n",
            "ask p\nstep s : a\nafter s a p\n", "ask p\nstep s : a\nafter s a p yes yes\n", "ask p\nnever p\n", "ask p\nnever\n",
            "ask p\nnever p yes p no\n", "ask p\nask q\nnever q yes p yes\n", "ask p\nnever q yes\n", "ask p\nnever p yes\nnever p no\n",
            "ask p\nnever p yes\nnever p yes\n", "ask p\nstep s : a\nnever p yes\nafter s a p yes\n", "ask p \n", " ask p\n", "ask p\n\n", "fact\n", "ask p\tc\n",
            "step s:a\n", "step s: a\n", "ask :\n", "step s c : a\n", "ask p\nnever p yes q\n",
        ]
        for text in wrong:
            self.assertEqual(raised(read_sheet, text), told(text.count("\n")), text)

    def test_machines(self):
        for luck, program in samples_of_programs(80):
            machine = machine_of(program)
            found = read_machine(program.sheet, show_machine(machine))
            self.assertTrue(is_just(found, Machine) and found == machine)

    def test_texts_of_no_machine(self):
        good = "do s a=1 b=0\nask p 2 3\nout end\nmark w 4\nout stop w\n"
        self.assertEqual(show_machine(read_machine(SHEET, good)), good)
        wrong = [
            "do s a=1 b=0\n", "do s a=00 b=0\n", "do s a=0 b=-0\n", "do s a=0 b=+0\n", "do s b=0 a=0\n", "do s a=0\n", "do s a=0 b=0 c=0\n", "do t a=0\n",
            "do s a=0 b= 0\n", "do s a=0 b=\n", "do s a:0 b:0\n", "do s\n", "do\n", "ask q 1 1\nout end\n", "ask p 1\nout end\n", "ask p 1 1 1\nout end\n",
            "ask p 01 1\nout end\n", "mark w 0000000000\n", "mark w 00\n", "mark w\n", "mark W 0\n", "mark w 1\n", "mark w 1000000000\n", "mark w 0 0\n",
            "mark w  0\n", "out\n", "out end end\n", "out raise\n", "out stop W\n", "out leave l\n", "out on\n", "round 0\n", "round\nround\n", "out end\nround\n",
            "mark w 1\nmark w 3\nout end\nround\n", "do s a=1 b=2\nout end\nout end\n", "loop\n", "\n", "mark w 0 \n", "Round\n", "mark w 1\nout end\n\n",
            "mark w x\n", "do s a=1=1 b=0\nout end\n",
        ]
        for text in wrong:
            self.assertEqual(raised(read_machine, SHEET, text), told(text.count("\n")), text)
        self.assertEqual(read_machine(SHEET, "mark w 0\n").points(), [("mark", "w", 0)])

    def test_traces(self):
        for seed in range(60):
            luck = samples.dice(seed)
            sheet = samples.random_sheet(luck, 3, 2)
            machine = samples.lively_machine(luck, sheet, 5)
            for trace, _ in oracle.traces(oracle.Ground(sheet), machine, 2)[:20]:
                self.assertEqual(forms(read_trace(show_trace(trace))), forms(trace))
        self.assertEqual(forms(read_trace("at\nyes no\n")), forms(((), [("yes", "no", ())])))
        # traces by their form alone: whether there are such steps is not asked
        self.assertEqual(forms(read_trace("at no\nzz of no\n")), forms(((False,), [("zz", "of", (False,))])))

    def test_texts_of_no_trace(self):
        wrong = ["at yes\ns ok\n", "at\ns ok yes\n", "at yes\ns ok yes yes\n", "at true\n", "at Yes\n", "at yes \n", " at yes\n", "yes\n", "\n", "at\n\n",
                 "at\ns\n", "at yes\ns yes\n", "at\nS ok\n", "at\ns OK\n", "at\ns abcdefghi\n", "at\ns  ok\n", "at yes\ns ok 1\n", "at  yes\n", "at\nat\n", "to yes\n", "s ok yes\nat yes\n"]
        for text in wrong:
            self.assertEqual(raised(read_trace, text), told(text.count("\n")), text)

    def test_what_is_told_is_new(self):
        read_trace("at\ns ok\n")[1].clear()
        self.assertEqual(read_trace("at\ns ok\n"), ((), [("s", "ok", ())]))


if __name__ == "__main__":
    unittest.main()
