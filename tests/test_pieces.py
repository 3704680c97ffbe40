"""Pieces: rows side by side, by themselves, and what a program comes to them with."""

import unittest

import cuts
import samples
from checks import forms, raised
from fourfaces.errors import NoPiece
from fourfaces.laying import machine_of
from fourfaces.pieces import alone, comes_with, is_piece, leading_out, pieces, rows_of, ways_of
from fourfaces.programs import Program
from fourfaces.rows import renamed
from fourfaces.sheets import Sheet
from fourfaces.ways import exits

SHEET = Sheet(["c"], [("p", ["c"])], [("s", ["c"], ["bad", "ok"])], [("after", "s", "bad", "p", True)])
DONE = ("do", "s", (("bad", (("leave", "l"), ("mark", "u"))),))
LOOP = ("loop", "l", (DONE, ("if", "p", (("again", "l"),), ()), ("mark", "v")))
PROGRAM = Program(SHEET, (LOOP, ("call", "n")), {"n": (("block", "k", (("leave", "k"), ("mark", "w"))),), "z": (("stop", "wa"),)})
BODY = (("", (0, 0, 0)), 3)
ASKING = [rows_of, leading_out, alone, ways_of, comes_with]


def programs(many):
    for seed in range(many):
        luck = samples.dice(seed)
        program = samples.small_program(luck, samples.random_sheet(luck, 2, 2))
        if len(program):
            yield luck, program


class Pieces(unittest.TestCase):
    def test_all_pieces(self):
        program = Program(SHEET, (("mark", "u"), ("block", "k", (("mark", "v"), ("mark", "w")))), {"n": (("stop", "x"),)})
        told = [(("", (0,)), 1), (("", (0,)), 2), (("", (1,)), 1), (("", (1, 0, 0)), 1), (("", (1, 0, 0)), 2)]
        told += [(("", (1, 0, 1)), 1), (("n", (0,)), 1)]
        self.assertEqual(forms(pieces(program)), forms(told))
        self.assertEqual(pieces(Program(SHEET, ())), [])
        pieces(program).clear()
        self.assertEqual(len(pieces(program)), 7)

    def test_is_piece(self):
        some = pieces(PROGRAM)
        for thing in some:
            self.assertIs(is_piece(PROGRAM, thing), True)
            for other in samples.twisted(thing):
                wanted = isinstance(other, tuple) and forms(other) in [forms(piece) for piece in some]
                self.assertIs(is_piece(PROGRAM, other), wanted, other)
        for thing in samples.ODDITIES + [(("", ()), 1), (("", (0,)), 0), (("", (0,)), True), (("", (False,)), 1), (("q", (0,)), 1),
                                         (("", (0,)), 3), (("", (2,)), 1), (("", (0, 0)), 1), (("", (-1,)), 1), ((None, (0,)), 1)]:
            self.assertIs(is_piece(PROGRAM, thing), False, thing)
            for ask in ASKING:
                kind, fields = raised(ask, PROGRAM, thing)
                self.assertEqual((kind, list(fields)), (NoPiece, ["piece"]))
                self.assertIs(fields["piece"], thing)

    def test_rows(self):
        self.assertEqual(rows_of(PROGRAM, BODY), LOOP[2])
        self.assertEqual(rows_of(PROGRAM, (("", (0, 0, 1)), 2)), LOOP[2][1:])
        self.assertEqual(rows_of(PROGRAM, (("n", (0,)), 1)), PROGRAM.rows("n"))
        for luck, program in programs(60):
            self.assertEqual(pieces(program), cuts.pieces(program))
            for piece in pieces(program):
                self.assertEqual(forms(rows_of(program, piece)), forms(cuts.rows_of(program, piece)))

    def test_leading_out(self):
        told = [("", (0, 0, 0, 0, 0)), ("", (0, 0, 1, 0, 0))]
        self.assertEqual(forms(leading_out(PROGRAM, BODY)), forms(told))
        self.assertEqual(leading_out(PROGRAM, (("", (0, 0, 1)), 2)), told[1:])
        self.assertEqual(leading_out(PROGRAM, (("", (0, 0, 0, 0, 0)), 1)), told[:1])
        self.assertEqual([leading_out(PROGRAM, (("", (0,)), 2)), leading_out(PROGRAM, (("n", (0,)), 1))], [[], []])
        self.assertEqual(leading_out(PROGRAM, (("n", (0, 0, 0)), 2)), [("n", (0, 0, 0))])
        for luck, program in programs(80):
            for piece in pieces(program):
                self.assertEqual(leading_out(program, piece), cuts.leading_out(program, piece))

    def test_labels_within_one_another(self):
        inner = ("loop", "l", (("block", "l", (("again", "l"), ("leave", "l"))),))
        program = Program(SHEET, (("loop", "l", (inner, ("mark", "u"))),))
        # a leave is about the block, an again about the inner loop
        self.assertEqual(leading_out(program, (("", (0, 0, 0, 0, 0)), 1)), [("", (0, 0, 0, 0, 0, 0, 0))])
        self.assertEqual(leading_out(program, (("", (0, 0, 0)), 1)), [])

    def test_alone(self):
        single, words = alone(PROGRAM, BODY)
        self.assertEqual(sorted(words.values()), [("again", "l"), ("leave", "l")])
        self.assertTrue(single.sheet == SHEET and single.procedures() == PROGRAM.procedures())
        again, leave = [word for way in (("again", "l"), ("leave", "l")) for word in words if words[word] == way]
        wanted = (("do", "s", (("bad", (("stop", leave), ("mark", "u"))),)), ("if", "p", (("stop", again),), ()), ("mark", "v"))
        self.assertEqual(forms(single.rows()), forms(wanted))
        whole, words = alone(PROGRAM, (("", (0,)), 2))
        self.assertEqual([whole == PROGRAM, words], [True, {}])

    def test_words_that_no_stop_has(self):
        letters = "abcdefghijklmnopqrstuvwxyz"
        rows = [("stop", "w" + letter) for letter in letters[:24]] + [("leave", "k"), ("leave", "l"), ("again", "l")]
        program = Program(SHEET, (("loop", "l", (("block", "k", tuple(rows)),)),), {"n": (("stop", "wy"),)})
        single, words = alone(program, (("", (0, 0, 0, 0, 0)), 27))
        self.assertEqual(len(words), 3)
        self.assertEqual(list(words), sorted(words))
        self.assertFalse(set(words) & set(program.names_in("stop")))
        self.assertEqual([row for row in single.rows() if row[0] == "leave"], [])

    def test_random_pieces_alone(self):
        led = 0
        for luck, program in programs(80):
            for piece in pieces(program):
                single, words = alone(program, piece)
                self.assertTrue(single.sheet == program.sheet and single.procedures() == program.procedures())
                self.assertEqual(list(words), sorted(words))
                self.assertFalse(set(words) & set(program.names_in("stop")))
                outer = {program.row_at(address) for address in leading_out(program, piece)}
                self.assertEqual(sorted(words.values()), sorted(outer))
                back = {words[word]: "z" + words[word][0][0] + words[word][1] for word in words}
                self.assertEqual(single.rows(), self.put(cuts.closed(cuts.rows_of(program, piece)), words, back))
                led += len(words)
        self.assertGreater(led, 50)

    def put(self, rows, words, back):
        """The rows with the words that alone chose in the place of those of the test."""
        return renamed(rows, "stop", {back[words[word]]: word for word in words})

    def test_ways(self):
        self.assertEqual(forms(ways_of(PROGRAM, BODY)), forms([("again", "l"), ("leave", "l"), ("on",)]))
        self.assertEqual(ways_of(PROGRAM, (("", (0,)), 2)), [("on",)])
        self.assertEqual(ways_of(PROGRAM, (("z", (0,)), 1)), [("stop", "wa")])
        self.assertEqual(ways_of(PROGRAM, (("n", (0, 0, 0)), 2)), [("leave", "k")])
        # behind bad the ask is answered by yes, so this goes round for ever
        facts = [("after", "s", "bad", "p", True), ("after", "s", "ok", "p", True)]
        sheet = Sheet(["c"], [("p", ["c"])], [("s", ["c"], ["bad", "ok"])], facts)
        program = Program(sheet, (("loop", "l", (("do", "s", ()), ("if", "p", (), (("raise", "e"),)))),))
        self.assertEqual(ways_of(program, (("", (0,)), 1)), [])
        self.assertEqual(ways_of(program, (("", (0, 0, 1)), 1)), [("on",), ("raise", "e")])

    def test_an_error_that_is_called_like_a_word(self):
        rows = (("loop", "l", (("if", "p", (("leave", "l"),), ()), ("if", "p", (), (("raise", "wa"),)))),)
        program = Program(SHEET, rows)
        self.assertEqual(list(alone(program, (("", (0, 0, 0)), 2))[1]), ["wa"])
        self.assertEqual(ways_of(program, (("", (0, 0, 0)), 2)), [("leave", "l"), ("raise", "wa")])

    def test_ways_wait_for_always(self):
        rows = (("loop", "l", (("try", (("leave", "l"),), (), (("if", "p", (("again", "l"),), ()),)), ("mark", "u"))),)
        program = Program(SHEET, rows)
        self.assertEqual(ways_of(program, (("", (0, 0, 0)), 2)), [("again", "l"), ("leave", "l")])

    def test_random_ways(self):
        kinds = set()
        for luck, program in programs(100):
            for piece in pieces(program):
                told = ways_of(program, piece)
                self.assertEqual(forms(told), forms(cuts.ways_of(program, piece)))
                single, words = alone(program, piece)
                self.assertEqual(len(told), len(exits(machine_of(single))))
                kinds |= {way[0] for way in told}
        self.assertEqual(kinds, {"on", "leave", "again", "raise", "stop"})


class Coming(unittest.TestCase):
    def test_a_body_a_procedure_a_loop(self):
        yes, no = (True,), (False,)
        self.assertEqual(forms(comes_with(PROGRAM, BODY)), forms([no, yes]))
        self.assertEqual(comes_with(PROGRAM, (("", (0, 0, 0, 0, 0)), 1)), [yes])
        self.assertEqual(comes_with(PROGRAM, (("", (0, 0, 1)), 1)), [no, yes])
        self.assertEqual(comes_with(PROGRAM, (("", (0, 0, 2)), 1)), [no])
        self.assertEqual(comes_with(PROGRAM, (("", (1,)), 1)), [yes])
        self.assertEqual(comes_with(PROGRAM, (("n", (0, 0, 0)), 2)), [yes])
        self.assertEqual(comes_with(PROGRAM, (("n", (0, 0, 1)), 1)), [])
        self.assertEqual(comes_with(PROGRAM, (("z", (0,)), 1)), [])

    def test_a_loop_that_is_done_again_is_not_come_to(self):
        sheet = Sheet(["c"], [("p", ["c"])], [("s", ["c"], ["ok"])], [("after", "s", "ok", "p", True)])
        for body in ((("do", "s", ()),), (("do", "s", ()), ("again", "l"))):
            program = Program(sheet, (("if", "p", (("stop", "w"),), (("loop", "l", body),)),))
            self.assertEqual(comes_with(program, (("", (0, 1, 0)), 1)), [(False,)])
            self.assertEqual(comes_with(program, (("", (0, 1, 0, 0, 0)), 1)), [(False,), (True,)])

    def test_rows_without_points(self):
        program = Program(SHEET, (("block", "k", (("leave", "k"), ("raise", "e"))), ("loop", "l", ()), ("mark", "u")))
        told = [comes_with(program, (("", path), 1)) for path in ((0,), (0, 0, 0), (0, 0, 1), (1,), (2,))]
        all_two = [(False,), (True,)]
        self.assertEqual(told, [all_two, all_two, [], all_two, []])

    def test_many_ways_to_a_row_that_is_no_point(self):
        """Rows that are come to in far more places than a machine may have points."""
        procedures = {"n": (("call", "x"),) * 8, "x": (("call", "z"),) * 8, "z": (("block", "k", (("leave", "k"),)),)}
        program = Program(SHEET, (("call", "n"),) * 6, procedures)
        self.assertEqual(len(machine_of(program)), 1)
        self.assertEqual(comes_with(program, (("z", (0, 0, 0)), 1)), [(False,), (True,)])

    def test_random_pieces(self):
        lots = set()
        for luck, program in programs(100):
            found = cuts.coming(program)
            for piece in pieces(program):
                told = sorted(answers for address, answers in found if address == piece[0])
                self.assertEqual(forms(comes_with(program, piece)), forms(told))
                lots.add(len(told))
        self.assertGreaterEqual(len(lots), 3)

    def test_what_is_told_is_new(self):
        alone(PROGRAM, BODY)[1].clear()
        for ask in (leading_out, ways_of, comes_with):
            ask(PROGRAM, BODY).clear()
            self.assertEqual(len(ask(PROGRAM, BODY)), {leading_out: 2, ways_of: 3, comes_with: 2}[ask])
        self.assertEqual(len(alone(PROGRAM, BODY)[1]), 2)


if __name__ == "__main__":
    unittest.main()
