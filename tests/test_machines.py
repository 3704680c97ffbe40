import unittest

import oracle
import samples
from checks import forms, raised
from fourfaces.errors import NoTrace, Wrong
from fourfaces.machines import Machine
from fourfaces.sheets import Sheet

SHEET = Sheet(["c"], [("p", ["c"]), ("q", [])], [("s", ["c"], ["bad", "ok"]), ("t", [], ["o"])])
END, ROUND = ("out", ("end",)), ("round",)
POINTS = [
    ("do", "s", (("bad", 1), ("ok", 2))), ("ask", "p", 3, 4), ("mark", "w", 0), ("do", "t", (("o", 1),)), END,
]


def both(first, second):
    return (first, second)


class Made(unittest.TestCase):
    def test_what_it_tells(self):
        for points in (POINTS, tuple(POINTS)):
            machine = Machine(SHEET, points)
            self.assertEqual(forms(machine.points()), forms(POINTS))
            self.assertEqual(len(machine), 5)
            self.assertIs(machine.sheet == SHEET, True)
            self.assertEqual([machine.behind(at) for at in range(5)], [[1, 2], [3, 4], [0], [1], []])
            self.assertEqual(machine.marks(), ["w"])

    def test_what_is_returned_and_what_is_passed(self):
        points = list(POINTS)
        machine = Machine(SHEET, points)
        points.clear()
        machine.points().clear()
        machine.behind(0).clear()
        machine.marks().clear()
        self.assertEqual([machine.points(), machine.behind(0), machine.marks()], [POINTS, [1, 2], ["w"]])

    def test_machines_of_one_point(self):
        told = [(END, []), (ROUND, [0]), (("mark", "w", 0), [0]), (("ask", "p", 0, 0), [0, 0]),
                (("do", "t", (("o", 0),)), [0]), (("do", "s", (("bad", 0), ("ok", 0))), [0, 0])]
        for point, goals in told:
            machine = Machine(SHEET, [point])
            self.assertEqual([len(machine), machine.points(), machine.behind(0)], [1, [point], goals])

    def test_behind_tells_each_point_as_often_as_it_is_a_goal(self):
        points = [("ask", "p", 1, 1), ("do", "s", (("bad", 2), ("ok", 2))), ("mark", "u", 3), ("mark", "w", 4), ROUND]
        machine = Machine(SHEET, points)
        self.assertEqual([machine.behind(at) for at in range(5)], [[1, 1], [2, 2], [3], [4], [4]])
        self.assertEqual(machine.marks(), ["u", "w"])

    def test_marks_are_told_once(self):
        machine = Machine(SHEET, [("mark", "w", 1), ("mark", "a", 2), ("mark", "w", 3), END])
        self.assertEqual(machine.marks(), ["a", "w"])
        self.assertEqual(Machine(SHEET, [END]).marks(), [])

    def test_points_are_numbered_as_they_are_met(self):
        right = [("ask", "p", 1, 2), ("mark", "u", 3), ("mark", "v", 4), END, ("out", ("raise", "e"))]
        self.assertEqual(Machine(SHEET, right).points(), right)
        wrong = [
            [("ask", "p", 2, 1), ("mark", "v", 3), ("mark", "u", 4), END, ("out", ("raise", "e"))],
            [("ask", "p", 1, 2), ("mark", "u", 4), ("mark", "v", 3), END, ("out", ("raise", "e"))],
            [("do", "s", (("bad", 2), ("ok", 1))), END, ROUND],
            [END, ROUND], [ROUND, END], [("mark", "u", 0), END], [("mark", "u", 2), END, ROUND],
            [("mark", "u", 1), END, ("mark", "u", 0)], [("mark", "u", 1), ("mark", "u", 3), ROUND, END],
        ]
        for points in wrong:
            self.assertEqual(raised(Machine, SHEET, points), (Wrong, {"place": 1}))

    def test_no_exit_and_no_round_stands_twice(self):
        for end in [END, ROUND, ("out", ("raise", "e")), ("out", ("stop", "w"))]:
            self.assertEqual(raised(Machine, SHEET, [("ask", "p", 1, 2), end, end]), (Wrong, {"place": 1}))
        right = [("ask", "p", 1, 2), ("ask", "q", 3, 4), ("ask", "q", 5, 6), END, ("out", ("raise", "e")),
                 ("out", ("stop", "e")), ("out", ("raise", "f"))]
        self.assertEqual(len(Machine(SHEET, right)), 7)
        right = [("ask", "p", 1, 2), ("mark", "w", 3), ("mark", "w", 3), END]
        self.assertEqual(len(Machine(SHEET, right)), 4)

    def test_wrong_sheets(self):
        for thing in samples.ODDITIES + [Machine(SHEET, [END]), Sheet]:
            self.assertEqual(raised(Machine, thing, POINTS), (Wrong, {"place": 0}))
            self.assertEqual(raised(Machine, thing, None), (Wrong, {"place": 0}))

    def test_wrong_points(self):
        wrong = list(samples.ODDITIES) + [[], (), SHEET, {0: END}, END, [list(END)], [("round", 0)], [("out",)], [["round"]],
                 [("out", ("on",))], [("out", "end")], [("out", ("leave", "l"))], [("out", ["end"])], [("out", ("end",), 0)],
                 [("mark", "w")], [("mark", "W", 0)], [("mark", "w", 1)], [("mark", "w", -1)], [("mark", "w", False)],
                 [("mark", "w", "0")], [("mark", "w", 0, 0)], [("mark", None, 0)], [("mark", "w", None)], [("call", "n", 0)],
                 [("ask", "p", 0)], [("ask", "x", 0, 0)], [("ask", "s", 0, 0)], [("ask", "p", 0, False)],
                 [("ask", "p", False, 0)], [("ask", "p", 0, 1)], [("ask", "p", 1, 0)], [("ask", "p", 0, 0, 0)],
                 [("ask", ["p"], 0, 0)], [("ask", "p", -1, 0)], [("ask", "p", (0,), 0)], [("do", "t")], [("do", "t", ())],
                 [("do", "t", (("o", 0),), 0)], [("do", "x", (("o", 0),))], [("do", "p", (("o", 0),))],
                 [("do", "t", [("o", 0)])], [("do", "t", (["o", 0],))], [("do", "t", (("o", False),))],
                 [("do", "t", (("o", 1),))], [("do", "t", (("o", -1),))], [("do", "t", (("x", 0),))],
                 [("do", "t", (("o", 0), ("o", 0)))], [("do", "t", (("o",),))], [("do", "t", (("o", 0, 0),))],
                 [("do", "s", (("bad", 0),))], [("do", "s", (("ok", 0), ("bad", 0)))], [("do", "t", {"o": 0})],
                 [("do", "s", (("bad", 0), ("ok", 0), ("z", 0)))], [("do", "t", ("o", 0))], [("do", "t", ((("o",), 0),))],
                 [("do", ["t"], (("o", 0),))], [("if", "p", 0, 0)], [(("round",),)], [("Round",)], [()], [None]]
        for thing in wrong:
            with self.subTest(thing=repr(thing)):
                self.assertEqual(raised(Machine, SHEET, thing), (Wrong, {"place": 1}))

    def test_the_last_point_is_looked_at_too(self):
        for wrong in [("mark", "w", True), ("ask", "p", 0, 1.0), ("out", ("on",)), None, ("do", "t", (("o", 9),))]:
            points = [("mark", "u", 1), ("mark", "v", 2), wrong]
            self.assertEqual(raised(Machine, SHEET, points), (Wrong, {"place": 1}))

    def test_twisted_points_are_wrong_or_machines(self):
        for thing in samples.twisted(POINTS):
            told = raised(Machine, SHEET, thing)
            if told[0] == "returned":
                self.assertEqual(forms(told[1].points()), forms(list(thing)))
            else:
                self.assertEqual(told, (Wrong, {"place": 1}))

    def test_equal(self):
        one = Machine(SHEET, POINTS)
        self.assertIs(one == Machine(Sheet(["c"], SHEET.asks()[::-1], SHEET.steps()[::-1]), tuple(POINTS)), True)
        self.assertIs(one != Machine(SHEET, POINTS), False)
        turned = POINTS[:2] + [("mark", "v", 0)] + POINTS[3:]
        others = [Machine(SHEET, turned), Machine(SHEET, [END]), Machine(SHEET.with_fact(("never", (("p", True),))), POINTS)]
        for other in others + samples.ODDITIES + [SHEET, POINTS, Machine]:
            self.assertIs(one == other, False)
            self.assertIs(one != other, True)


class MadeAnyhow(unittest.TestCase):
    def test_numbers_and_points_that_are_never_met(self):
        points = [END, ("mark", "v", 5), ("mark", "u", 0), ("ask", "p", 2, 0), ROUND, ("mark", "w", 1)]
        machine = Machine.made(SHEET, points, 3)
        self.assertEqual(machine.points(), [("ask", "p", 1, 2), ("mark", "u", 2), END])
        self.assertEqual(Machine.made(SHEET, points, 1).points(), [("mark", "v", 1), ("mark", "w", 0)])
        self.assertEqual(Machine.made(SHEET, tuple(points), 4).points(), [ROUND])
        self.assertEqual(Machine.made(SHEET, points, 0).points(), [END])

    def test_exits_and_rounds_are_put_together(self):
        points = [("ask", "p", 1, 2), ("ask", "q", 3, 4), ("ask", "q", 5, 6), END, ROUND, END, ROUND]
        told = [("ask", "p", 1, 2), ("ask", "q", 3, 4), ("ask", "q", 3, 4), END, ROUND]
        self.assertEqual(Machine.made(SHEET, points, 0).points(), told)
        for begin in (3, 5):
            self.assertEqual(Machine.made(SHEET, points, begin).points(), [END])
        for begin in (4, 6):
            self.assertEqual(Machine.made(SHEET, points, begin).points(), [ROUND])

    def test_only_equal_exits_are_put_together(self):
        points = [("ask", "p", 1, 2), ("out", ("raise", "e")), ("ask", "q", 3, 4), ("out", ("stop", "e")), ("out", ("raise", "e"))]
        told = [("ask", "p", 1, 2), ("out", ("raise", "e")), ("ask", "q", 3, 1), ("out", ("stop", "e"))]
        self.assertEqual(Machine.made(SHEET, points, 0).points(), told)

    def test_other_points_that_are_alike_stay(self):
        points = [("ask", "p", 1, 2), ("mark", "w", 3), ("mark", "w", 3), END]
        self.assertEqual(Machine.made(SHEET, points, 0).points(), points)

    def test_goals_in_which_the_same_point_stands_twice(self):
        points = [END, ("do", "s", (("bad", 2), ("ok", 2))), ("ask", "q", 0, 0)]
        told = [("do", "s", (("bad", 1), ("ok", 1))), ("ask", "q", 2, 2), END]
        self.assertEqual(Machine.made(SHEET, points, 1).points(), told)

    def test_what_is_passed_stays(self):
        points = [END, ("mark", "v", 3), ROUND, END]
        Machine.made(SHEET, points, 1)
        self.assertEqual(points, [END, ("mark", "v", 3), ROUND, END])

    def test_a_machine_is_that_which_is_made_of_its_points(self):
        for seed in range(60):
            luck = samples.dice(seed)
            sheet = samples.random_sheet(luck)
            points, begin = samples.random_points(luck, sheet, 9), luck.randrange(9)
            machine = Machine.made(sheet, points, begin)
            self.assertTrue(Machine(sheet, machine.points()) == machine)
            self.assertTrue(Machine.made(sheet, machine.points(), 0) == machine)
            order = list(range(9))
            luck.shuffle(order)
            turned = [None] * 9
            for at, point in enumerate(points):
                turned[order[at]] = self.moved(point, order)
            self.assertTrue(Machine.made(sheet, turned, order[begin]) == machine)

    def moved(self, point, order):
        if point[0] == "do":
            return ("do", point[1], tuple((end, order[goal]) for end, goal in point[2]))
        if point[0] in ("ask", "mark"):
            return point[:2] + tuple(order[goal] for goal in point[2:])
        return point

    def test_from_point(self):
        machine = Machine(SHEET, POINTS)
        self.assertTrue(machine.from_point(0) == machine)
        self.assertEqual(machine.from_point(1).points(), [("ask", "p", 1, 2), ("do", "t", (("o", 0),)), END])
        self.assertEqual(machine.from_point(4).points(), [END])
        self.assertEqual(machine.from_point(2).points()[:2], [("mark", "w", 1), ("do", "s", (("bad", 2), ("ok", 0)))])
        self.assertTrue(machine.from_point(1).sheet == SHEET)
        self.assertEqual(machine.points(), POINTS)


class Moves(unittest.TestCase):
    def test_moves(self):
        machine = Machine(SHEET, POINTS)
        self.assertEqual(forms(machine.move(0, (True, False))), forms(("do", "s", 0)))
        self.assertEqual(forms(machine.move(1, (True, False))), forms(("do", "t", 3)))
        self.assertEqual(forms(machine.move(1, (False, True))), forms(("out", ("end",))))
        self.assertEqual(machine.move(2, (False, True)), ("do", "s", 0))
        self.assertEqual(machine.move(4, (False, False)), ("out", ("end",)))

    def test_each_ask_goes_by_its_own_answer(self):
        machine = Machine(SHEET, [("ask", "q", 1, 2), END, ROUND])
        self.assertEqual([machine.move(0, both(p, q)) for p in (False, True) for q in (False, True)],
                         [("never",), ("out", ("end",))] * 2)

    def test_never(self):
        machine = Machine(SHEET, [("ask", "p", 1, 2), ("mark", "u", 0), ("mark", "v", 3), ROUND])
        for point in range(4):
            for answers in oracle.all_answers(SHEET):
                self.assertEqual(forms(machine.move(point, answers)), forms(("never",)))

    def test_an_ask_whose_goal_is_itself(self):
        machine = Machine(SHEET, [("ask", "p", 0, 1), END])
        self.assertEqual([machine.move(0, (True, True)), machine.move(0, (False, True))], [("never",), ("out", ("end",))])

    def test_a_long_way_is_not_never(self):
        points = [("mark", "w", at + 1) for at in range(39)] + [END]
        self.assertEqual(Machine(SHEET, points).move(0, (True, True)), ("out", ("end",)))

    def test_compared_with_the_definition(self):
        for seed in range(100):
            luck = samples.dice(seed)
            sheet = samples.random_sheet(luck)
            machine = samples.random_machine(luck, sheet, 10)
            for point in range(len(machine)):
                for answers in oracle.can_be(sheet):
                    self.assertEqual(forms(machine.move(point, answers)), forms(oracle.move(machine, point, answers)))


class Traces(unittest.TestCase):
    def setUp(self):
        self.machine = Machine(SHEET, POINTS)
        self.trace = ((False, False), [("s", "bad", (True, False)), ("t", "o", (True, False)), ("t", "o", (True, False))])

    def test_going_along(self):
        answers, turns = self.trace
        for many, shown in [(0, ("do", "s")), (1, ("do", "t")), (2, ("do", "t")), (3, ("do", "t"))]:
            for kind in (list, tuple):
                self.assertIs(self.machine.goes_along((answers, kind(turns[:many]))), True)
                self.assertEqual(forms(self.machine.shows((answers, kind(turns[:many])))), forms(shown))
        ended = (answers, [("s", "bad", (False, False))])
        self.assertEqual(forms(self.machine.shows(ended)), forms(("out", ("end",))))
        again = (answers, [("s", "ok", (True, False)), ("s", "ok", (False, False))])
        self.assertEqual(self.machine.shows(again), ("do", "s"))
        self.assertEqual(forms(Machine(SHEET, [ROUND]).shows(((True, True), []))), forms(("never",)))

    def test_where_it_does_not_go_along(self):
        answers, turns = self.trace
        told = [
            ((answers, [("t", "o", answers)] + turns), 1), ((answers, turns[:1] + [("s", "ok", answers)]), 2),
            ((answers, [("s", "bad", (False, True))]), 1), ((answers, [("s", "no", answers)]), 1),
            ((answers, turns + [("t", "o", (False, False))]), 4), ((answers, turns + turns), 4),
            ((answers, [("s", "bad", (False, False)), ("s", "ok", answers)]), 2),
            ((answers, [("s", "ok", (False, False)), ("t", "o", (False, False)), ("x", "o", answers)]), 2),
        ]
        for trace, at in told:
            for kind in (list, tuple):
                with self.subTest(trace=trace):
                    given = (trace[0], kind(trace[1]))
                    self.assertIs(self.machine.goes_along(given), False)
                    self.assertEqual(raised(self.machine.shows, given), (NoTrace, {"at": at}))

    def test_answers_that_cannot_be(self):
        sheet = SHEET.with_fact(("never", (("p", True), ("q", True))))
        machine = Machine(sheet, POINTS)
        self.assertEqual(raised(machine.shows, ((True, True), [])), (NoTrace, {"at": 0}))
        self.assertIs(machine.goes_along(((True, True), [])), False)
        turn = ("s", "bad", (True, True))
        self.assertEqual(raised(machine.shows, ((False, True), [turn])), (NoTrace, {"at": 1}))
        self.assertEqual(raised(machine.shows, ((True, True), [turn])), (NoTrace, {"at": 0}))

    def test_answers_that_the_step_does_not_let_behind(self):
        sheet = SHEET.with_fact(("after", "s", "bad", "p", True))
        machine = Machine(sheet, POINTS)
        self.assertIs(machine.goes_along(((True, True), [("s", "bad", (True, True))])), True)
        self.assertIs(machine.goes_along(((True, True), [("s", "bad", (False, True))])), False)
        self.assertIs(machine.goes_along(((True, True), [("s", "ok", (False, True))])), True)
        self.assertIs(machine.goes_along(((True, True), [("s", "ok", (False, False))])), False)

    def test_any_value(self):
        for thing in samples.ODDITIES + [SHEET, self.machine, self.trace[0], self.trace[1]]:
            self.assertIs(self.machine.goes_along(thing), False)
        sheet = Sheet([], [], [])
        self.assertIs(Machine(sheet, [END]).goes_along(((), [])), True)
        for thing in [(), ((),), [(), []], ((), [], []), ((), None), ((), {}), ([], []), ((), ""), ((), [None])]:
            self.assertIs(Machine(sheet, [END]).goes_along(thing), False)

    def test_twisted_traces(self):
        ground = oracle.Ground(SHEET)
        right = [forms((answers, tuple(turns))) for (answers, turns), _ in oracle.traces(ground, self.machine, 3)]
        seen = {True: 0, False: 0}
        for thing in samples.twisted(self.trace):
            told = self.machine.goes_along(thing)
            is_form = isinstance(thing, tuple) and len(thing) == 2 and isinstance(thing[1], (list, tuple))
            if is_form and len(thing[1]) < 4:
                self.assertIs(told, forms((thing[0], tuple(thing[1]))) in right)
            elif not is_form:
                self.assertIs(told, False)
            seen[told] += 1
        self.assertGreater(min(seen.values()), 1)

    def test_compared_with_the_definition(self):
        for seed in range(40):
            luck = samples.dice(seed)
            sheet = samples.random_sheet(luck, 2, 2)
            machine, ground = samples.random_machine(luck, sheet), oracle.Ground(sheet)
            for trace, (point, answers) in oracle.traces(ground, machine, 2):
                self.assertIs(machine.goes_along(trace), True)
                self.assertEqual(machine.shows(trace), oracle.move(machine, point, answers)[:2])
                for step, _, outcomes in sheet.steps():
                    for outcome in outcomes:
                        for later in oracle.all_answers(sheet):
                            turn = (step, outcome, later)
                            told = turn in [done for done, _ in oracle.turns(ground, machine, (point, answers))]
                            longer = (trace[0], trace[1] + [turn])
                            self.assertIs(machine.goes_along(longer), told)
                            if not told:
                                self.assertEqual(raised(machine.shows, longer), (NoTrace, {"at": len(longer[1])}))

    def test_long_traces(self):
        turns = [("s", "ok", (True, False)), ("s", "ok", (False, False))] * 150
        self.assertEqual(self.machine.shows(((False, False), turns)), ("do", "s"))
        turns[299] = ("s", "ok", (False, True))
        self.assertEqual(raised(self.machine.shows, ((False, False), turns)), (NoTrace, {"at": 300}))


if __name__ == "__main__":
    unittest.main()
