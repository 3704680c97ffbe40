"""Cutting: pieces that show the same, rows in the place of a piece, procedures that are cut out and put back."""

import unittest

import cuts
import oracle
import samples
from checks import forms, raised
from fourfaces.alike import show_same
from fourfaces.cutting import alike_everywhere, alike_here, cut_out, exchanged, idle_procedures, parting_here, pruned, \
    put_back, stands_for
from fourfaces.errors import Crosses, FaceError, NoCall, NoPiece, Ring, Twice, Unknown
from fourfaces.laying import machine_of
from fourfaces.pieces import leading_out, pieces
from fourfaces.programs import Program
from fourfaces.rows import how_many
from fourfaces.sheets import Sheet

SHEET = Sheet(["c"], [("p", ["c"])], [("s", ["c"], ["bad", "ok"]), ("t", [], ["ok"])], [("after", "s", "bad", "p", True)])
STEP, OTHER = ("do", "s", ()), ("do", "t", ())
# behind bad the ask is answered by yes
KNOWN = ("do", "s", (("bad", (("if", "p", (OTHER,), (STEP,)),)), ("ok", (OTHER,))))
PROGRAM = Program(SHEET, (KNOWN, ("call", "n")), {"n": (STEP, ("mark", "u")), "z": (("call", "y"), OTHER), "y": (STEP,)})
NO, YES = (False,), (True,)
FIRST, SECOND = (("", (0, 0, 0)), 1), (("", (0, 1, 0)), 1)


def programs(many):
    for seed in range(many):
        luck = samples.dice(seed)
        program = samples.small_program(luck, samples.random_sheet(luck, 2, 2))
        if len(program):
            yield luck, program


def same_points(one, other):
    return forms(machine_of(one).points()) == forms(machine_of(other).points())


class Alike(unittest.TestCase):
    def test_here_and_everywhere(self):
        self.assertIs(alike_everywhere(PROGRAM, FIRST, SECOND), False)
        self.assertIs(alike_here(PROGRAM, FIRST, SECOND), True)
        self.assertIsNone(parting_here(PROGRAM, FIRST, SECOND))
        self.assertIs(alike_everywhere(PROGRAM, (("n", (0,)), 1), (("y", (0,)), 1)), True)
        self.assertIs(alike_here(PROGRAM, FIRST, (("n", (0,)), 1)), False)
        self.assertEqual(forms(parting_here(PROGRAM, FIRST, (("n", (0,)), 1))), forms((YES, [])))
        # marks do not count
        self.assertIs(alike_everywhere(PROGRAM, (("n", (0,)), 2), (("n", (0,)), 1)), True)

    def test_a_piece_that_nothing_comes_to(self):
        self.assertIs(alike_everywhere(PROGRAM, (("z", (1,)), 1), (("y", (0,)), 1)), False)
        self.assertIs(alike_here(PROGRAM, (("z", (1,)), 1), (("n", (0,)), 1)), True)
        self.assertIsNone(parting_here(PROGRAM, (("z", (1,)), 1), (("n", (0,)), 1)))

    def test_ways_out_are_compared_by_their_labels(self):
        leave, again, other = ("leave", "l"), ("again", "l"), ("leave", "k")
        rows = (("loop", "l", (STEP, leave)), ("loop", "l", (("block", "k", (leave, again, other)),)), ("loop", "l", (leave,)))
        program = Program(SHEET, rows)
        one, same, two = (("", (0, 0, 1)), 1), (("", (2, 0, 0)), 1), (("", (1, 0, 0, 0, 0)), 1)
        self.assertIs(alike_everywhere(program, one, same), True)
        self.assertIs(alike_everywhere(program, one, two), True)
        self.assertIs(alike_everywhere(program, one, (("", (1, 0, 0, 0, 1)), 1)), False)
        self.assertIs(alike_everywhere(program, one, (("", (1, 0, 0, 0, 2)), 1)), False)
        self.assertIs(alike_everywhere(program, one, (("", (1, 0, 0, 0, 0)), 3)), True)

    def test_ways_out_are_no_stops(self):
        rows = (("loop", "l", (("leave", "l"),)), ("stop", "wa"), ("stop", "wb"), ("stop", "a"))
        program = Program(SHEET, rows)
        for at in (1, 2, 3):
            self.assertIs(alike_everywhere(program, (("", (0, 0, 0)), 1), (("", (at,)), 1)), False)
        self.assertIs(stands_for(program, (("", (0, 0, 0)), 1), (("stop", "wc"),)), False)
        self.assertIs(stands_for(program, (("", (0, 0, 0)), 1), (("leave", "l"), ("stop", "wa"))), True)

    def test_no_piece_is_told_first(self):
        call, good = (("", (0,)), 9), FIRST
        for ask in (alike_everywhere, alike_here, parting_here):
            for thing in samples.ODDITIES + [call]:
                self.assertIs(raised(ask, PROGRAM, thing, good)[1]["piece"], thing)
                self.assertIs(raised(ask, PROGRAM, good, thing)[1]["piece"], thing)
                self.assertIs(raised(ask, PROGRAM, thing, call)[1]["piece"], thing)
                self.assertIs(raised(ask, PROGRAM, thing, good)[0], NoPiece)

    def test_random_pieces(self):
        seen = set()
        for luck, program in programs(70):
            ground, some = oracle.Ground(program.sheet), pieces(program)
            for _ in range(12):
                one, other = luck.choice(some), luck.choice(some)
                first, second = cuts.rows_of(program, one), cuts.rows_of(program, other)
                everywhere = cuts.same_from(program, first, second, ground.can)
                both = [answers for answers in cuts.comes_with(program, one) if answers in cuts.comes_with(program, other)]
                here = cuts.same_from(program, first, second, both)
                self.assertIs(alike_everywhere(program, one, other), everywhere)
                self.assertIs(alike_here(program, one, other), here)
                told = parting_here(program, one, other)
                self.assertEqual(told is None, here)
                if told is not None:
                    self.check_parting(program, ground, cuts.single(program, first), cuts.single(program, second), both, told)
                seen.add((everywhere, here, bool(both), told is not None and len(told[1]) > 0))
        self.assertGreaterEqual(len(seen), 5)

    def check_parting(self, program, ground, one, other, some, told):
        self.assertIn(told[0], some)
        self.assertEqual(forms(told), forms((told[0], [tuple(turn) for turn in told[1]])))
        self.assertTrue(one.goes_along(told) and other.goes_along(told))
        self.assertNotEqual(one.shows(told), other.shows(told))
        if 0 < len(told[1]) < 4:
            ahead = [self.traces(ground, machine, len(told[1]) - 1) for machine in (one, other)]
            for key in set(ahead[0]) & set(ahead[1]):
                if key[0] in some:
                    shown = [oracle.move(machine, *found[key])[:2] for machine, found in zip((one, other), ahead)]
                    self.assertEqual(shown[0], shown[1])

    def traces(self, ground, machine, most):
        """The traces with at most so many turns, and the situations behind."""
        found = oracle.traces(ground, machine, most)
        return {(answers, tuple(turns)): situation for (answers, turns), situation in found}


class StandsFor(unittest.TestCase):
    def test_rows_for_a_piece(self):
        self.assertIs(stands_for(PROGRAM, FIRST, (OTHER,)), True)
        self.assertIs(stands_for(PROGRAM, FIRST, (("mark", "x"), OTHER)), True)
        self.assertIs(stands_for(PROGRAM, FIRST, (STEP,)), False)
        self.assertIs(stands_for(PROGRAM, FIRST, ()), False)
        self.assertIs(stands_for(PROGRAM, (("z", (1,)), 1), ()), True)
        self.assertIs(stands_for(PROGRAM, (("", (1,)), 1), (("if", "p", (STEP,), (("call", "y"),)),)), True)

    def test_rows_that_go_round_for_ever(self):
        program = Program(SHEET, (("loop", "l", ()),))
        self.assertIs(stands_for(program, (("", (0,)), 1), (("loop", "k", (("mark", "u"),)),)), True)
        self.assertIs(stands_for(program, (("", (0,)), 1), ()), False)

    def test_what_stands_for_a_piece_can_be_exchanged(self):
        seen = set()
        for luck, program in programs(90):
            some = pieces(program)
            for _ in range(6):
                piece, other = luck.choice(some), luck.choice(some)
                rows = luck.choice([cuts.rows_of(program, other), (), samples.Grower(luck, program.sheet, 4).rows([], [], 3)])
                kind, new = raised(exchanged, program, piece, rows)
                if kind != "returned":
                    self.assertIn(kind, (Unknown, Ring))
                    continue
                wanted = cuts.same_from(program, cuts.rows_of(program, piece), rows, cuts.comes_with(program, piece))
                self.assertIs(stands_for(program, piece, rows), wanted)
                if wanted:
                    self.assertTrue(show_same(machine_of(new), machine_of(program)))
                seen.add(wanted)
        self.assertEqual(len(seen), 2)

    def test_no_piece(self):
        for thing in samples.ODDITIES + [(("", (0,)), 0)]:
            for ask, rest in ((stands_for, ((),)), (exchanged, ((),)), (cut_out, ("x",)), (cut_out, ("n",))):
                kind, fields = raised(ask, PROGRAM, thing, *rest)
                self.assertIs(kind, NoPiece)
                self.assertIs(fields["piece"], thing)


class Exchanged(unittest.TestCase):
    def test_rows_in_the_place_of_a_piece(self):
        new = exchanged(PROGRAM, (("", (0,)), 2), (OTHER,))
        self.assertTrue(new == Program(SHEET, (OTHER,), PROGRAM.procedures()))
        new = exchanged(PROGRAM, FIRST, ())
        self.assertEqual(new.rows()[0], ("do", "s", (("bad", ()), ("ok", (OTHER,)))))
        new = exchanged(PROGRAM, (("n", (1,)), 1), (("mark", "x"), ("mark", "y")))
        self.assertEqual(new.rows("n"), (STEP, ("mark", "x"), ("mark", "y")))
        self.assertEqual(len(PROGRAM.rows("n")), 2)

    def test_what_program_raises(self):
        self.assertEqual(raised(exchanged, PROGRAM, FIRST, (("do", "q", ()),)), (Unknown, {"address": ("", (0, 0, 0))}))
        self.assertEqual(raised(exchanged, PROGRAM, FIRST, (("leave", "l"),)), (Unknown, {"address": ("", (0, 0, 0))}))
        self.assertEqual(raised(exchanged, PROGRAM, (("y", (0,)), 1), (("call", "z"),)), (Ring, {"name": "y"}))
        self.assertEqual(raised(exchanged, PROGRAM, (("n", (1,)), 1), (STEP, ("call", "n"))), (Ring, {"name": "n"}))


class CutOut(unittest.TestCase):
    def test_a_whole_body_and_a_part(self):
        new = cut_out(PROGRAM, (("", (0,)), 2), "x")
        self.assertEqual([new.rows(), new.rows("x")], [(("call", "x"),), PROGRAM.rows()])
        self.assertTrue(same_points(new, PROGRAM))
        new = cut_out(PROGRAM, (("n", (0,)), 1), "x")
        self.assertEqual([new.rows("n"), new.rows("x"), new.rows("z")], [(("call", "x"), ("mark", "u")), (STEP,), PROGRAM.rows("z")])
        new = cut_out(PROGRAM, FIRST, "a")
        self.assertEqual(new.rows()[0][2], (("bad", (("call", "a"),)), ("ok", (OTHER,))))
        self.assertEqual(sorted(new.procedures()), ["a", "n", "y", "z"])

    def test_what_is_wrong(self):
        rows = (("loop", "l", (STEP, ("if", "p", (("again", "l"),), (("leave", "l"),)))),)
        program = Program(SHEET, rows, {"n": ()})
        body, least = (("", (0, 0, 0)), 2), ("", (0, 0, 1, 0, 0))
        for name in ("x", "n"):
            self.assertEqual(raised(cut_out, program, body, name), (Crosses, {"address": least}))
        self.assertEqual(raised(cut_out, program, (("", (0,)), 1), "n"), (Twice, {"name": "n"}))
        self.assertTrue(same_points(cut_out(program, (("", (0,)), 1), "x"), program))

    def test_random_pieces(self):
        cut = 0
        for luck, program in programs(80):
            some = [piece for piece in pieces(program) if not leading_out(program, piece)]
            for piece in luck.sample(some, min(4, len(some))):
                new = cut_out(program, piece, "new")
                self.assertEqual(new.rows("new"), cuts.rows_of(program, piece))
                self.assertTrue(same_points(new, program))
                call = (piece[0][0], piece[0][1])
                self.assertEqual(new.row_at(call), ("call", "new"))
                back = put_back(new, call)
                self.assertTrue(same_points(back, program))
                self.assertTrue(pruned(back) == pruned(program))
                self.assertTrue(back == program.with_rows("new", cuts.rows_of(program, piece)))
                cut += 1
            crossing = [piece for piece in pieces(program) if leading_out(program, piece)]
            for piece in crossing[:3]:
                told = {"address": min(cuts.leading_out(program, piece))}
                self.assertEqual(raised(cut_out, program, piece, "new"), (Crosses, told))
        self.assertGreater(cut, 150)


class PutBack(unittest.TestCase):
    def test_a_call(self):
        new = put_back(PROGRAM, ("", (1,)))
        self.assertEqual([new.rows(), new.procedures()], [(KNOWN, STEP, ("mark", "u")), PROGRAM.procedures()])
        self.assertTrue(same_points(new, PROGRAM))
        self.assertEqual(put_back(PROGRAM, ("z", (0,))).rows("z"), (STEP, OTHER))
        self.assertTrue(same_points(put_back(PROGRAM, ("z", (0,))), PROGRAM))
        empty = Program(SHEET, (("call", "n"), STEP), {"n": ()})
        self.assertEqual(put_back(empty, ("", (0,))).rows(), (STEP,))

    def test_no_call(self):
        for thing in samples.ODDITIES + [("", (0,)), ("", (9,)), ("n", (1,)), ("q", (0,)), ("", (True,)), ["", (1,)], ("", [1])]:
            kind, fields = raised(put_back, PROGRAM, thing)
            self.assertIs(kind, NoCall)
            self.assertIs(fields["address"], thing)

    def test_random_calls(self):
        many = 0
        for luck, program in programs(150):
            for address in program.addresses():
                if program.row_at(address)[0] == "call":
                    new = put_back(program, address)
                    self.assertTrue(same_points(new, program))
                    inner = how_many(program.rows(program.row_at(address)[1]))
                    self.assertEqual(len(new), len(program) - 1 + inner)
                    many += 1
        self.assertGreater(many, 30)


class Pruned(unittest.TestCase):
    def test_idle_procedures(self):
        self.assertEqual(forms(idle_procedures(PROGRAM)), forms(["y", "z"]))
        self.assertTrue(pruned(PROGRAM) == Program(SHEET, PROGRAM.rows(), {"n": PROGRAM.rows("n")}))
        chain = Program(SHEET, (("block", "k", (("leave", "k"), ("call", "z"))),), {"z": (("call", "y"),), "y": (), "n": (("call", "y"),)})
        self.assertEqual(idle_procedures(chain), ["n"])
        self.assertEqual(sorted(pruned(chain).procedures()), ["y", "z"])
        self.assertEqual(idle_procedures(Program(SHEET, ())), [])
        idle_procedures(PROGRAM).clear()
        self.assertEqual(len(idle_procedures(PROGRAM)), 2)

    def test_random_programs(self):
        idle = 0
        for luck, program in programs(150):
            told, new = idle_procedures(program), pruned(program)
            self.assertTrue(same_points(new, program))
            self.assertEqual(sorted(list(new.procedures()) + told), list(program.procedures()))
            self.assertEqual(idle_procedures(new), [])
            for name in told:
                with self.assertRaises(FaceError):
                    new.rows(name)
            idle += len(told)
        self.assertGreater(idle, 20)


if __name__ == "__main__":
    unittest.main()
