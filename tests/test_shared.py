"""Shared: pieces for which one procedure can stand."""

import unittest
from itertools import combinations

import cuts
import samples
from checks import forms, is_just, raised
from fourfaces.alike import show_same
from fourfaces.cutting import alike_here, stands_for
from fourfaces.errors import Crosses, Ring, TooMany, Twice, Unlike
from fourfaces.laying import machine_of
from fourfaces.pieces import comes_with, leading_out, pieces
from fourfaces.programs import Program
from fourfaces.shared import can_share, fewest_lots, share, share_lots
from fourfaces.sheets import Sheet

SHEET = Sheet(["c"], [("p", ["c"])], [("s", ["c"], ["bad", "ok"]), ("t", [], ["ok"])], [("after", "s", "bad", "p", True)])
STEP, OTHER = ("do", "s", ()), ("do", "t", ())
THREE = Program(SHEET, (STEP, OTHER, ("mark", "u"), STEP, ("block", "k", (("mark", "v"), OTHER))), {"n": (STEP,)})
SOME = [(("", (0,)), 2), (("", (3,)), 2), (("n", (0,)), 1), (("", (2,)), 1)]
# from yes the first one is done, from no the second one: they are alike, but neither stands for the other one
SPLIT = Program(SHEET, (("if", "p", (STEP, STEP), (OTHER,)), ("do", "s", ())))
PARTS = [(("", (0, 0, 0)), 2), (("", (0, 1, 0)), 1)]


def lots(program, some):
    """The greatest lots, all lists of indexes being looked at."""
    alike = {(a, b): alike_here(program, some[a], some[b]) for a in range(len(some)) for b in range(a)}
    good = [lot for many in range(len(some) + 1) for lot in combinations(range(len(some)), many)
            if all(alike[b, a] for a, b in combinations(lot, 2))]
    return good, sorted([list(lot) for lot in good if not any(set(lot) < set(other) for other in good)])


def fewest(numbers, good):
    """Into how few good lots numbers fall, all ways to part them being tried."""
    if not numbers:
        return 0
    rest = [[number for number in numbers if number not in lot] for lot in good if numbers[0] in lot and set(lot) <= set(numbers)]
    return 1 + min(fewest(some, good) for some in rest)


def samples_of_pieces(many):
    """Programs with some pieces that have no row in common, and none of which is led out of."""
    for seed in range(many):
        luck = samples.dice(seed)
        program = samples.small_program(luck, samples.random_sheet(luck, 2, 2))
        some = pieces(program)
        luck.shuffle(some)
        yield luck, program, cuts.apart(program, some)[:luck.choice([2, 3, 5, 8])]


class Sharing(unittest.TestCase):
    def test_no_pieces_and_one(self):
        self.assertEqual(forms([can_share(THREE, []), share_lots(THREE, []), fewest_lots(THREE, [])]), forms([True, [[]], 0]))
        one = SOME[:1]
        self.assertEqual(forms([can_share(THREE, one), share_lots(THREE, one), fewest_lots(THREE, one)]), forms([True, [[0]], 1]))
        new = share(THREE, one, "x")
        self.assertEqual([new.rows()[0], new.rows("x")], [("call", "x"), (STEP, OTHER)])
        self.assertTrue(machine_of(new) == machine_of(THREE))

    def test_pieces_that_show_the_same(self):
        self.assertIs(can_share(THREE, SOME[:2]), True)
        new = share(THREE, SOME[:2], "x")
        self.assertEqual(new.rows(), (("call", "x"), ("mark", "u"), ("call", "x")))
        self.assertEqual([sorted(new.procedures()), new.rows("n")], [["n", "x"], (STEP,)])
        self.assertTrue(show_same(machine_of(new), machine_of(THREE)))

    def test_pieces_that_do_not(self):
        self.assertIs(can_share(THREE, [SOME[0], SOME[3]]), False)
        self.assertEqual(raised(share, THREE, [SOME[0], SOME[3]], "x"), (Unlike, {}))
        # nothing comes to the piece of n, so it is alike with all
        self.assertEqual(forms(share_lots(THREE, SOME)), forms([[0, 1, 2], [2, 3]]))
        self.assertEqual(forms([fewest_lots(THREE, SOME), can_share(THREE, SOME)]), forms([2, False]))
        self.assertEqual(share_lots(THREE, SOME[::-1]), [[0, 1], [1, 2, 3]])

    def test_pieces_that_come_with_unlike_answers(self):
        self.assertEqual([comes_with(SPLIT, piece) for piece in PARTS], [[(True,)], [(False,)]])
        self.assertIs(can_share(SPLIT, PARTS), True)
        for some in (PARTS, PARTS[::-1]):
            new = share(SPLIT, some, "x")
            self.assertEqual(new.rows(), (("if", "p", (("call", "x"),), (("call", "x"),)), STEP))
            self.assertTrue(show_same(machine_of(new), machine_of(SPLIT)))
            for piece in PARTS:
                self.assertTrue(stands_for(SPLIT, piece, new.rows("x")))

    def test_what_is_wrong(self):
        rows = (("loop", "l", (STEP, ("if", "p", (("again", "l"),), (("leave", "l"),)))), ("mark", "u"))
        program = Program(SHEET, rows, {"n": (STEP,)})
        crossing, whole = (("", (0, 0, 1)), 1), (("n", (0,)), 1)
        least = ("", (0, 0, 1, 0, 0))
        for some in ([crossing], [whole, crossing], [crossing, (("", (1,)), 1)]):
            for name in ("x", "n"):
                self.assertEqual(raised(share, program, some, name), (Crosses, {"address": least}))
        both = [(("", (0, 0, 1, 1, 0)), 1), (("", (0, 0, 1, 0, 0)), 1)]
        self.assertEqual(raised(share, program, both, "x"), (Crosses, {"address": least}))
        self.assertEqual(raised(share, THREE, [SOME[0], SOME[3]], "n"), (Twice, {"name": "n"}))
        self.assertEqual(raised(share, THREE, SOME[:2], "n"), (Twice, {"name": "n"}))

    def test_a_piece_in_a_procedure_that_another_one_calls(self):
        """The rows of the two are needed both, so the new procedure calls one that calls it."""
        facts = [("after", "s", "ok", "p", True), ("after", "s", "bad", "p", False)]
        sheet = Sheet(["c"], [("p", ["c"])], [("s", ["c"], ["bad", "ok"]), ("t", [], ["ok"])], facts)
        inner = ("if", "p", (STEP, ("stop", "w")), (OTHER,))
        program = Program(sheet, (STEP, ("if", "p", (("stop", "v"),), ()), ("call", "n")), {"n": (("if", "p", (), (("mark", "u"), inner)),)})
        pair = [(("", (2,)), 1), (("n", (0, 1, 1)), 1)]
        self.assertEqual([comes_with(program, piece) for piece in pair], [[(False,)], [(False,)]])
        # either of both will do, but a call of n would make a ring
        new = share(program, pair, "x")
        self.assertTrue(show_same(machine_of(new), machine_of(program)))
        rows = (("if", "p", (("call", "n"), ("stop", "v")), (("call", "n"),)), STEP, ("if", "p", (), (("call", "n"),)))
        program = Program(sheet, rows, {"n": (("if", "p", (STEP, STEP), ()), OTHER)})
        pair = [(("", (0, 1, 0)), 1), (("n", (0, 0, 0)), 2)]
        self.assertEqual([comes_with(program, piece) for piece in pair], [[(False,)], [(True,)]])
        self.assertIs(can_share(program, pair), True)
        self.assertEqual(raised(share, program, pair, "x"), (Ring, {"name": "n"}))
        self.assertEqual(raised(share, program, pair, "a"), (Ring, {"name": "a"}))

    def test_rows_that_make_no_ring(self):
        rows = (STEP, ("stop", "w"), STEP, ("mark", "u"), ("mark", "v"), ("stop", "w"))
        program = Program(SHEET, (("call", "n"),), {"n": rows})
        pair = [(("", (0,)), 1), (("n", (2,)), 4)]
        for some in (pair, pair[::-1]):
            new = share(program, some, "x")
            self.assertEqual([new.rows(), new.rows("n"), new.rows("x")], [(("call", "x"),), rows[:2] + (("call", "x"),), rows[2:]])

    def test_more_points_than_a_machine_may_have(self):
        sheet = Sheet(["c"], [("p", ["c"])], [("s", ["c"], ["ok"])], [("never", (("p", True),))])
        rows = (STEP,) * 15 + (("if", "p", tuple(("block", "k", (("mark", "u"),)) for _ in range(7)), ()),)
        program = Program(sheet, rows)
        some = [(("", (0,)), 15)] + [(("", (15, 0, at)), 1) for at in range(7)]
        new = share(program, some, "x")
        self.assertEqual([new.rows("x"), len(new)], [(STEP,) * 15, 24])
        self.assertEqual(raised(machine_of, new), (TooMany, {"most": 100}))

    def test_eight_pieces(self):
        program = Program(SHEET, (STEP, OTHER) * 4)
        some = [(("", (at,)), 1) for at in range(8)]
        self.assertEqual(share_lots(program, some), [[0, 2, 4, 6], [1, 3, 5, 7]])
        self.assertEqual([fewest_lots(program, some), can_share(program, some)], [2, False])
        new = share(program, some[::2], "x")
        self.assertEqual(new.rows(), (("call", "x"), OTHER) * 4)
        self.assertTrue(machine_of(new) == machine_of(program))

    def test_random_pieces(self):
        seen, counts = set(), set()
        for luck, program, some in samples_of_pieces(150):
            good, told = lots(program, some)
            self.assertEqual(forms(share_lots(program, some)), forms(told))
            self.assertEqual(forms(fewest_lots(program, some)), forms(fewest(list(range(len(some))), good)))
            self.assertIs(can_share(program, some), len(told) == 1)
            counts.add(fewest_lots(program, some))
            if some:
                kind, new = raised(share, program, some, "new")
                seen.add(kind)
                self.check(program, some, told, kind, new)
            for lot in told:
                if len(lot) > 1:
                    part = [some[at] for at in lot]
                    kind, new = raised(share, program, part, "new")
                    seen.add(kind)
                    self.check(program, part, [lot], kind, new)
        self.assertEqual(seen, {"returned", Unlike, Ring})
        self.assertGreaterEqual(len(counts), 4)

    def check(self, program, some, told, kind, new):
        """What share returned or raised for some pieces, told being their greatest lots."""
        if kind == "returned":
            self.assertEqual(len(told), 1)
            self.assertTrue(is_just(new, Program) and new.sheet == program.sheet)
            self.assertTrue(show_same(machine_of(new), machine_of(program)))
            calls = sum([new.row_at(address) == ("call", "new") for address in new.addresses()])
            self.assertEqual(calls, len(some))
            for piece in some:
                self.assertTrue(stands_for(program.with_rows("new", new.rows("new")), piece, new.rows("new")))
        elif kind is Ring:
            inside = {piece[0][0] for piece in some} - {""}
            called = [name for piece in some for name in cuts.called(program, cuts.rows_of(program, piece))]
            self.assertTrue(inside & set(called))
        else:
            self.assertGreater(len(told), 1)

    def test_what_is_passed_stays_and_what_is_told_is_new(self):
        some = list(SOME)
        share_lots(THREE, some)[0].clear()
        share_lots(THREE, some).clear()
        share(THREE, some[:2], "x")
        self.assertEqual([some, share_lots(THREE, some)], [SOME, [[0, 1, 2], [2, 3]]])
        self.assertEqual([leading_out(THREE, piece) for piece in some], [[]] * 4)


if __name__ == "__main__":
    unittest.main()
