import unittest

import oracle
import samples
from checks import forms, raised
from fourfaces.alike import alike_points, are_pairs, is_parting, pairs, parting, show_same
from fourfaces.errors import Unlike
from fourfaces.laying import machine_of
from fourfaces.machines import Machine
from fourfaces.programs import Program
from fourfaces.sheets import Sheet
from fourfaces.worlds import is_trace, trace_world

SHEET = Sheet(["c"], [("p", ["c"])], [("s", ["c"], ["ok"])])
TWO = Sheet(["c"], [("p", ["c"])], [("s", ["c"], ["bad", "ok"]), ("t", [], ["o"])])
NO, YES = (False,), (True,)
END, ROUND = ("out", ("end",)), ("round",)
DONE = ("do", "s", ())
ONE = machine_of(Program(SHEET, (("if", "p", (DONE,), (DONE,)),)))
OTHER = machine_of(Program(SHEET, (DONE,)))
THIRD = machine_of(Program(SHEET, (("if", "p", (DONE,), ()),)))
ALL = [pairs, lambda one, other: are_pairs(one, other, []), show_same, parting,
       lambda one, other: is_parting(one, other, (NO, [])), lambda one, other: alike_points(one, 0, other, NO)]


def machines(many, sheets=None):
    for seed in range(many):
        luck = samples.dice(seed)
        sheet = samples.random_sheet(luck, 2, 2)
        size = luck.choice([2, 4, 7])
        yield sheet, samples.random_machine(luck, sheet, size), samples.random_machine(luck, sheet, size)


class Same(unittest.TestCase):
    def test_the_examples(self):
        self.assertEqual(forms(pairs(ONE, OTHER)), forms([(0, 0, NO), (0, 0, YES), (3, 1, NO), (3, 1, YES)]))
        self.assertEqual(forms([show_same(ONE, THIRD), parting(ONE, THIRD)]), forms([False, (NO, [])]))
        self.assertEqual([alike_points(ONE, 1, OTHER, YES), alike_points(THIRD, 0, OTHER, YES)], [[0], [0]])

    def test_marks_and_asks_do_not_count(self):
        one = machine_of(Program(TWO, (("mark", "u"), ("if", "p", (("mark", "v"),), ()), ("do", "t", ()), ("mark", "u"))))
        other = machine_of(Program(TWO, (("do", "t", ()),)))
        self.assertIs(show_same(one, other), True)
        self.assertIsNone(parting(one, other))
        self.assertIs(are_pairs(one, other, pairs(one, other)), True)

    def test_what_is_shown_counts(self):
        points = [END, ROUND, ("out", ("raise", "e")), ("out", ("stop", "e")), ("out", ("raise", "f")),
                  ("do", "t", (("o", 0),)), ("do", "s", (("bad", 0), ("ok", 0)))]
        some = [Machine(TWO, [point]) for point in points]
        for at, one in enumerate(some):
            for beside, other in enumerate(some):
                self.assertIs(show_same(one, other), at == beside)
                trace = parting(one, other)
                self.assertEqual(trace is None, at == beside)
                if at != beside:
                    self.assertEqual(trace[1], [])
                    self.assertIs(is_parting(one, other, trace), True)

    def test_going_round_in_two_ways(self):
        one, other = Machine(TWO, [ROUND]), Machine(TWO, [("mark", "u", 1), ("ask", "p", 0, 1)])
        self.assertIs(show_same(one, other), True)
        self.assertEqual(pairs(one, other), [(0, 0, NO), (0, 0, YES)])

    def test_each_outcome_and_all_answers_behind_count(self):
        one = Machine(TWO, [("do", "s", (("bad", 1), ("ok", 2))), END, ("ask", "p", 1, 1)])
        other = Machine(TWO, [("do", "s", (("bad", 1), ("ok", 2))), END, ("ask", "p", 3, 1), ROUND])
        trace = parting(one, other)
        self.assertEqual(forms(trace[1]), forms([("s", "ok", YES)]))
        self.assertIs(show_same(one, other), False)
        self.assertIsNone(pairs(one, other))
        # with a fact those answers do not come behind this outcome
        sheet = TWO.with_fact(("after", "s", "ok", "p", False))
        one, other = Machine(sheet, one.points()), Machine(sheet, other.points())
        self.assertEqual([show_same(one, other), parting(one, other)], [True, None])
        told = [(0, 0, NO), (0, 0, YES), (1, 1, NO), (1, 1, YES), (2, 2, NO)]
        self.assertEqual(pairs(one, other), told)

    def test_answers_that_cannot_be_do_not_count(self):
        sheet = SHEET.with_fact(("never", (("p", False),)))
        one, other = Machine(sheet, ONE.points()), Machine(sheet, THIRD.points())
        self.assertEqual([show_same(one, other), parting(one, other)], [True, None])
        self.assertEqual(pairs(one, other), [(0, 0, YES), (3, 2, YES)])

    def test_loops_of_unlike_lengths(self):
        one = Machine(SHEET, [("do", "s", (("ok", 0),))])
        other = Machine(SHEET, [("do", "s", (("ok", 1),)), ("do", "s", (("ok", 2),)), ("do", "s", (("ok", 0),))])
        self.assertIs(show_same(one, other), True)
        self.assertEqual(pairs(one, other), [(0, at, answers) for at in range(3) for answers in (NO, YES)])
        self.assertEqual(alike_points(one, 0, other, NO), [0, 1, 2])

    def test_partings_are_as_short_as_possible(self):
        for many in (0, 1, 5, 38):
            one = Machine(SHEET, [("do", "s", (("ok", at + 1),)) for at in range(many)] + [END])
            other = Machine(SHEET, [("do", "s", (("ok", at + 1),)) for at in range(many + 1)] + [END])
            self.assertEqual(len(parting(one, other)[1]), many)

    def test_compared_with_the_definition(self):
        seen = {True: 0, False: 0}
        for sheet, one, other in machines(200):
            ground = oracle.Ground(sheet)
            same = all((0, 0, answers) in oracle.alike(ground, one, other) for answers in ground.can)
            self.assertIs(show_same(one, other), same)
            told, trace = pairs(one, other), parting(one, other)
            self.assertEqual([told is None, trace is None], [not same, same])
            if same:
                self.assertEqual(told, sorted(self.least_pairs(ground, one, other)))
            else:
                self.assertIs(is_parting(one, other, trace), True)
                self.assertIs(is_trace(sheet, trace), True)
                self.assertTrue(trace_world(sheet, trace).keeps())
                self.assertEqual(len(trace[1]), self.first_parting(ground, one, other))
            self.assertIs(show_same(one, one), True)
            seen[same] += 1
        self.assertGreater(min(seen.values()), 20)

    def least_pairs(self, ground, one, other):
        found = [(0, 0, answers) for answers in ground.can]
        for p, q, answers in found:
            for (_, first), (_, second) in zip(oracle.turns(ground, one, (p, answers)), oracle.turns(ground, other, (q, answers))):
                if (first[0], second[0], first[1]) not in found:
                    found.append((first[0], second[0], first[1]))
        return found

    def first_parting(self, ground, one, other):
        """How many turns it takes at least until unlike things are shown."""
        level, many = [(0, 0, answers) for answers in ground.can], 0
        while True:
            later = set()
            for p, q, answers in level:
                if oracle.move(one, p, answers)[:2] != oracle.move(other, q, answers)[:2]:
                    return many
                for a, b in zip(oracle.turns(ground, one, (p, answers)), oracle.turns(ground, other, (q, answers))):
                    later.add((a[1][0], b[1][0], a[1][1]))
            level, many = sorted(later), many + 1


class Pairs(unittest.TestCase):
    def test_closed_lists(self):
        told = pairs(ONE, OTHER)
        self.assertIs(are_pairs(ONE, OTHER, told), True)
        self.assertIs(are_pairs(ONE, OTHER, told[::-1]), True)
        self.assertIs(are_pairs(ONE, OTHER, told + [(1, 0, YES)]), True)
        self.assertIs(are_pairs(ONE, OTHER, [(2, 0, YES)] + told + [(1, 0, NO)]), True)

    def test_what_is_no_closed_list(self):
        told = pairs(ONE, OTHER)
        wrong = [tuple(told), told + told[:1], told + [(0, 1, YES)], told + [(3, 0, NO)], [], [None], None, {}, "",
                 told + [(4, 0, NO)], told + [(0, 2, NO)], told + [(-1, 0, NO)], told + [(0, -1, NO)],
                 told + [(1, False, NO)], told + [(True, 0, NO)], told + [(1, 0, (0,))], told + [(1, 0, (1,))],
                 told + [[1, 0, NO]], told + [(1, 0)], told + [(1, 0, NO, NO)], told + [(1, 0, [False])],
                 told + [(1, 0, ())], told + [("1", 0, NO)], told + [(1, 0, None)], {pair: True for pair in told},
                 [(0, 0, (0,)), (0, 0, (1,)), (3, 1, (0,)), (3, 1, (1,))], [(False, 0, NO)] + told[1:]]
        for at in range(len(told)):
            wrong.append(told[:at] + told[at + 1:])
        for thing in wrong + samples.ODDITIES + [ONE]:
            with self.subTest(thing=repr(thing)):
                self.assertIs(are_pairs(ONE, OTHER, thing), False)

    def test_there_is_no_closed_list_of_machines_that_show_unlike_things(self):
        everything = [(p, q, answers) for p in range(len(ONE)) for q in range(len(THIRD)) for answers in (NO, YES)]
        self.assertIs(are_pairs(ONE, THIRD, everything), False)
        self.assertIs(are_pairs(ONE, THIRD, []), False)
        self.assertIs(are_pairs(ONE, THIRD, [(0, 0, NO), (0, 0, YES)]), False)

    def test_pairs_with_answers_that_cannot_be(self):
        sheet = SHEET.with_fact(("never", (("p", False),)))
        one, other = Machine(sheet, ONE.points()), Machine(sheet, OTHER.points())
        told = pairs(one, other)
        self.assertEqual(told, [(0, 0, YES), (3, 1, YES)])
        self.assertIs(are_pairs(one, other, told), True)
        self.assertIs(are_pairs(one, other, told + [(0, 0, NO)]), False)

    def test_all_pairs_that_are_alike_are_a_closed_list(self):
        for sheet, one, other in machines(100):
            ground = oracle.Ground(sheet)
            alike = sorted(oracle.alike(ground, one, other))
            same = all((0, 0, answers) in alike for answers in ground.can)
            self.assertIs(are_pairs(one, other, alike), same)
            if same:
                for thing in samples.twisted(pairs(one, other)):
                    if are_pairs(one, other, thing):
                        self.assertLessEqual(set(pairs(one, other)), set(thing))
                        self.assertLessEqual(set(thing), set(alike))
                        self.assertEqual(forms(sorted(set(thing))), forms(sorted(thing)))


class Partings(unittest.TestCase):
    def test_is_parting(self):
        one = Machine(TWO, [("do", "s", (("bad", 1), ("ok", 0))), END])
        other = Machine(TWO, [("do", "s", (("bad", 1), ("ok", 0))), ("ask", "p", 2, 3), END, ROUND])
        turns = [("s", "ok", YES), ("s", "bad", NO)]
        for right in [(YES, turns), (YES, tuple(turns)), (NO, turns[1:]), (NO, turns[:1] * 300 + turns)]:
            self.assertIs(is_parting(one, other, right), True)
            self.assertIs(is_parting(other, one, right), True)
        wrong = [(YES, turns[:1]), (YES, []), (YES, [("s", "bad", YES)]), (YES, turns + turns), (YES, [("t", "o", YES)]),
                 ((0,), turns), (YES, [("s", "bad", (0,))]), [YES, turns], (YES, turns, []), (YES,), (YES, None), ((), turns)]
        for thing in wrong + samples.ODDITIES + [one]:
            self.assertIs(is_parting(one, other, thing), False)
            self.assertIs(is_parting(one, one, thing), False)

    def test_both_must_go_along(self):
        one, other = Machine(TWO, [("do", "t", (("o", 0),))]), Machine(TWO, [("do", "t", (("o", 1),)), END])
        turn = ("t", "o", YES)
        self.assertIs(is_parting(one, other, (YES, [turn])), True)
        self.assertIs(is_parting(one, other, (YES, [turn, turn])), False)
        self.assertIs(is_parting(other, one, (YES, [turn, turn])), False)

    def test_twisted_traces(self):
        for sheet, one, other in machines(60):
            trace = parting(one, other)
            for thing in samples.twisted(trace) if trace else []:
                told = one.goes_along(thing) and other.goes_along(thing) and one.shows(thing) != other.shows(thing)
                self.assertIs(is_parting(one, other, thing), told)


class Points(unittest.TestCase):
    def test_alike_points_go_by_the_answers(self):
        self.assertEqual([alike_points(ONE, at, THIRD, YES) for at in range(4)], [[0, 1], [0, 1], [0, 1], [2]])
        self.assertEqual([alike_points(ONE, at, THIRD, NO) for at in range(4)], [[1], [1], [1], [0, 2]])
        self.assertEqual(alike_points(ONE, 0, Machine(SHEET, [ROUND]), YES), [])

    def test_what_comes_behind_counts(self):
        one = Machine(SHEET, [("do", "s", (("ok", 1),)), ("do", "s", (("ok", 2),)), ("do", "s", (("ok", 3),)), END])
        self.assertEqual([alike_points(one, at, one, YES) for at in range(4)], [[0], [1], [2], [3]])
        self.assertEqual([alike_points(one, at, OTHER, YES) for at in range(4)], [[], [], [0], [1]])

    def test_compared_with_the_definition(self):
        for sheet, one, other in machines(150):
            ground = oracle.Ground(sheet)
            alike = oracle.alike(ground, one, other)
            for point in range(len(one)):
                for answers in ground.can:
                    told = [beside for beside in range(len(other)) if (point, beside, answers) in alike]
                    self.assertEqual(alike_points(one, point, other, answers), told)


class Sheets(unittest.TestCase):
    def test_machines_of_unlike_sheets(self):
        others = [Sheet(["c"], [("p", ["c"])], [("s", [], ["ok"])]), SHEET.with_fact(("never", (("p", True),))),
                  Sheet(["c", "d"], [("p", ["c"])], [("s", ["c"], ["ok"])]), Sheet(["c"], [("p", [])], [("s", ["c"], ["ok"])])]
        for sheet in others:
            other = Machine(sheet, ONE.points())
            for ask in ALL:
                self.assertEqual(raised(ask, ONE, other), (Unlike, {}))
                self.assertEqual(raised(ask, other, ONE), (Unlike, {}))

    def test_unlike_sheets_come_first(self):
        other = Machine(SHEET.with_fact(("never", (("p", True),))), ONE.points())
        for thing in samples.ODDITIES:
            self.assertEqual(raised(are_pairs, ONE, other, thing), (Unlike, {}))
            self.assertEqual(raised(is_parting, ONE, other, thing), (Unlike, {}))

    def test_equal_sheets_need_not_be_the_same_object(self):
        other = Machine(Sheet(("c", "c"), [("p", ("c",))], [("s", ("c",), ("ok",))]), OTHER.points())
        for ask in ALL:
            self.assertEqual(raised(ask, ONE, other), ("returned", ask(ONE, OTHER)))

    def test_sheets_without_asks(self):
        sheet = Sheet([], [], [("s", [], ["ok"])])
        one = Machine(sheet, [("do", "s", (("ok", 1),)), END])
        self.assertEqual([pairs(one, one), parting(one, Machine(sheet, [END]))], [[(0, 0, ()), (1, 1, ())], ((), [])])

    def test_sizes(self):
        sheet = Sheet(["c"], [("p", ["c"]), ("q", ["c"]), ("r", ["c"])], [("s", ["c"], ["a", "b", "o"])])
        points = [("do", "s", (("a", at + 1), ("b", at), ("o", 0))) for at in range(39)] + [END]
        one, other = Machine(sheet, points), Machine(sheet, points[:38] + [("do", "s", (("a", 39), ("b", 0), ("o", 0))), END])
        self.assertEqual(len(pairs(one, one)), 320)
        self.assertEqual(len(parting(one, other)[1]), 40)
        self.assertEqual(alike_points(one, 38, other, (True, True, True)), [])
        self.assertEqual(alike_points(one, 39, other, (True, True, True)), [39])


class New(unittest.TestCase):
    def test_what_is_returned_is_new_and_always_the_same(self):
        asks = [lambda: pairs(ONE, OTHER), lambda: parting(ONE, THIRD)[1], lambda: alike_points(ONE, 1, OTHER, YES)]
        before = [ask() for ask in asks]
        for ask in asks:
            ask().append("x")
        self.assertEqual([ask() for ask in asks], before)
        given = pairs(ONE, OTHER)[::-1]
        are_pairs(ONE, OTHER, given)
        self.assertEqual(given, before[0][::-1])


if __name__ == "__main__":
    unittest.main()
