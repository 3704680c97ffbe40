import unittest

import oracle
import samples
from checks import forms, raised
from fourfaces.alike import show_same
from fourfaces.errors import NoTrace, Wrong
from fourfaces.laying import machine_of
from fourfaces.machines import Machine
from fourfaces.programs import Program
from fourfaces.sheets import Sheet
from fourfaces.tables import Table, is_table_of, least_traces, machine_from, table_of

SHEET = Sheet(["c"], [("p", ["c"])], [("s", ["c"], ["bad", "ok"])])
NO, YES = (False,), (True,)
END, ROUND = ("out", ("end",)), ("round",)
NEVER, STEP = ("never",), ("do", "s")
DONE = ("do", "s", ())
# s is done; behind "ok" it goes round, behind "bad" it is done again
BEGINS = [(NO, 0), (YES, 1)]
GOALS = (("bad", NO, 0), ("bad", YES, 1), ("ok", NO, 2), ("ok", YES, 3))
STATES = [(NO, STEP, GOALS), (YES, STEP, GOALS), (NO, NEVER, ()), (YES, END, ())]
MACHINE = Machine(SHEET, [("do", "s", (("bad", 0), ("ok", 1))), ("ask", "p", 2, 3), END, ROUND])


def machines(many, most=8):
    for seed in range(many):
        luck = samples.dice(seed)
        sheet = samples.random_sheet(luck, 2, 2)
        yield sheet, samples.random_machine(luck, sheet, luck.randint(1, most))


def unfolded(machine):
    """A Table that shows the same as a machine, with a state for each situation that is reached."""
    ground, sheet = oracle.Ground(machine.sheet), machine.sheet
    order = [(0, answers) for answers in ground.can]
    states = []
    for situation in order:
        goals = []
        for turn, later in oracle.turns(ground, machine, situation):
            if later not in order:
                order.append(later)
            goals.append((turn[1], turn[2], order.index(later)))
        states.append((situation[1], oracle.move(machine, *situation)[:2], tuple(goals)))
    return Table(sheet, [(answers, at) for at, answers in enumerate(ground.can)], states)


class Made(unittest.TestCase):
    def test_what_it_tells(self):
        for kind in (list, tuple):
            table = Table(SHEET, kind(BEGINS), kind(STATES))
            self.assertEqual(forms([table.begins(), table.states(), len(table)]), forms([BEGINS, STATES, 4]))
            self.assertIs(table.sheet == SHEET, True)

    def test_what_is_returned_and_what_is_passed(self):
        begins, states = list(BEGINS), list(STATES)
        table = Table(SHEET, begins, states)
        begins.clear()
        states.clear()
        table.begins().clear()
        table.states().clear()
        self.assertEqual([table.begins(), table.states(), len(table)], [BEGINS, STATES, 4])

    def test_equal(self):
        one = Table(SHEET, BEGINS, STATES)
        self.assertIs(one == Table(Sheet(("c",), SHEET.asks(), SHEET.steps()), tuple(BEGINS), tuple(STATES)), True)
        self.assertIs(one != Table(SHEET, BEGINS, STATES), False)
        other = Sheet(["c", "d"], SHEET.asks(), SHEET.steps())
        others = [Table(SHEET, BEGINS, STATES[:3] + [(YES, NEVER, ())]), Table(other, BEGINS, STATES),
                  Table(SHEET, BEGINS, [(NO, END, ()), (YES, END, ())])]
        for thing in others + samples.ODDITIES + [SHEET, STATES, MACHINE, Table]:
            self.assertIs(one == thing, False)
            self.assertIs(one != thing, True)

    def test_unlike_begins_of_like_states(self):
        goals = (("bad", (), 0), ("ok", (), 0))
        sheet = Sheet([], [], [("s", [], ["bad", "ok"])])
        one = Table(sheet, [((), 0)], [((), STEP, goals)])
        self.assertEqual([len(one), one.begins()], [1, [((), 0)]])

    def test_a_sheet_without_steps(self):
        sheet = Sheet([], [("p", [])], [])
        table = Table(sheet, [(NO, 0), (YES, 1)], [(NO, END, ()), (YES, NEVER, ())])
        self.assertEqual([table.shows((NO, [])), table.shows((YES, ()))], [END, NEVER])

    def test_goals_are_of_all_answers_behind(self):
        sheet = SHEET.with_fact(("after", "s", "bad", "p", True))
        goals = (("bad", YES, 1), ("ok", NO, 2), ("ok", YES, 1))
        states = [(NO, STEP, goals), (YES, END, ()), (NO, END, ())]
        self.assertEqual(Table(sheet, BEGINS, states).states(), states)
        self.assertEqual(raised(Table, SHEET, BEGINS, states), (Wrong, {"place": 2}))
        self.assertEqual(raised(Table, sheet, BEGINS, STATES), (Wrong, {"place": 2}))

    def test_an_outcome_that_lets_none(self):
        sheet = SHEET.with_fact(("after", "s", "bad", "p", True)).with_fact(("after", "s", "bad", "p", False))
        goals = (("ok", NO, 0), ("ok", YES, 1))
        states = [(NO, STEP, goals), (YES, STEP, goals)]
        table = Table(sheet, BEGINS, states)
        self.assertEqual(table.states(), states)
        self.assertIs(table.goes_along((NO, [("s", "bad", NO)])), False)
        machine = machine_from(table)
        self.assertTrue(table_of(machine) == table)

    def test_wrong_sheets(self):
        for thing in samples.ODDITIES + [MACHINE, Sheet]:
            self.assertEqual(raised(Table, thing, BEGINS, STATES), (Wrong, {"place": 0}))
            self.assertEqual(raised(Table, thing, None, None), (Wrong, {"place": 0}))

    def test_wrong_begins(self):
        wrong = samples.ODDITIES + [
            BEGINS[:1], BEGINS[::-1], BEGINS + BEGINS[1:], [BEGINS[0], BEGINS[0]], [list(BEGINS[0]), BEGINS[1]],
            [((0,), 0), (YES, 1)], [(NO, 0), ((1,), 1)], [(NO, 0), ([True], 1)], [(NO, 0), (YES, True)],
            [(NO, False), (YES, 1)], [(NO, 0), (YES, "1")], [(NO, 0), (YES, None)], [(NO, 0), (YES,)],
            [(NO, 0), (YES, 1, 1)], [(NO, 0), None], [(NO, 0), ((True, True), 1)], [((), 0), (YES, 1)],
            {NO: 0, YES: 1}, [NO, YES], [(0, NO), (1, YES)], [(NO, 0), (YES, (1,))], SHEET]
        for thing in wrong:
            with self.subTest(thing=repr(thing)):
                self.assertEqual(raised(Table, SHEET, thing, STATES), (Wrong, {"place": 1}))
                self.assertEqual(raised(Table, SHEET, thing, None), (Wrong, {"place": 1}))

    def test_begins_that_lead_to_no_fitting_state(self):
        for begins in [[(NO, 1), (YES, 0)], [(NO, 0), (YES, 0)], [(NO, 0), (YES, 3)], [(NO, 2), (YES, 1)],
                       [(NO, 0), (YES, 4)], [(NO, -4), (YES, 1)], [(NO, 0), (YES, -1)], [(NO, 0), (YES, 10 ** 59)]]:
            self.assertEqual(raised(Table, SHEET, begins, STATES), (Wrong, {"place": 2}))

    def test_answers_that_cannot_be(self):
        sheet = SHEET.with_fact(("never", (("p", True),)))
        self.assertEqual(raised(Table, sheet, BEGINS, STATES), (Wrong, {"place": 1}))
        states = [(NO, STEP, (("bad", NO, 0), ("ok", NO, 1))), (NO, END, ())]
        self.assertEqual(len(Table(sheet, [(NO, 0)], states)), 2)
        states[0] = (NO, STEP, (("bad", NO, 0), ("bad", YES, 2), ("ok", NO, 1)))
        for more in [(YES, END, ()), (YES, STEP, ()), (YES, STEP, states[0][2])]:
            self.assertEqual(raised(Table, sheet, [(NO, 0)], states + [more]), (Wrong, {"place": 2}))

    def test_wrong_states(self):
        rest = STATES[1:]
        wrong = samples.ODDITIES + [SHEET, STATES[:3], STATES[1:], STATES + [(NO, END, ())], STATES + [None], dict(enumerate(STATES))]
        for first in [None, (), (NO,), (NO, STEP), list(STATES[0]), (NO, STEP, GOALS, ()), ((0,), STEP, GOALS),
                      ([False], STEP, GOALS), (YES, STEP, GOALS), ((False, False), STEP, GOALS), (NO, "do", GOALS),
                      (NO, ("do", "x"), GOALS), (NO, ("do", "p"), GOALS), (NO, ("do",), GOALS), (NO, ["do", "s"], GOALS),
                      (NO, ("do", "s", 0), GOALS), (NO, ("do", ["s"]), GOALS), (NO, ("do", None), GOALS), (NO, (), GOALS),
                      (NO, END, GOALS), (NO, NEVER, GOALS), (NO, STEP, ()), (NO, ("round",), ()), (NO, ("out", "end"), ()),
                      (NO, ("out", ("on",)), ()), (NO, ("out",), ()), (NO, ("never", 0), ()), (NO, None, ()), (NO, STEP, None),
                      (NO, STEP, list(GOALS)), (NO, STEP, GOALS[:3]), (NO, STEP, GOALS[::-1]), (NO, STEP, GOALS + GOALS[3:]),
                      (NO, STEP, GOALS + (("ok", YES, 2),)), (NO, ("mark", "s"), ()), (NO, (None, "s"), GOALS)]:
            wrong.append([first] + rest)
        for goal in [None, ("bad", NO), ["bad", NO, 0], ("bad", NO, False), ("bad", NO, 1), ("bad", NO, 4), ("bad", NO, -4),
                     ("bad", (0,), 0), ("bad", [False], 0), ("bad", YES, 1), ("ok", NO, 0), (None, NO, 0), ("bad", NO, "0"),
                     ("bad", NO, 0, 0), ("bad", NO, None), (["bad"], NO, 0), ("bad", None, 0), ("bad", NO, (0,)), ("no", NO, 0)]:
            wrong.append([(NO, STEP, (goal,) + GOALS[1:])] + rest)
        for thing in wrong:
            with self.subTest(thing=repr(thing)):
                self.assertEqual(raised(Table, SHEET, BEGINS, thing), (Wrong, {"place": 2}))

    def test_states_are_numbered_as_they_are_met(self):
        turned = (("bad", NO, 0), ("bad", YES, 1), ("ok", NO, 3), ("ok", YES, 2))
        wrong = [[(NO, STEP, turned), (YES, STEP, turned), (YES, END, ()), (NO, NEVER, ())],
                 [(NO, END, ()), (YES, END, ()), (NO, NEVER, ())],
                 [(NO, END, ()), (YES, STEP, GOALS), (NO, NEVER, ()), (YES, END, ()), (YES, NEVER, ())]]
        for states in wrong:
            self.assertEqual(raised(Table, SHEET, BEGINS, states), (Wrong, {"place": 2}))
        sheet = Sheet([], [], [("s", [], ["a", "b"])])
        right = [((), STEP, (("a", (), 1), ("b", (), 2))), ((), STEP, (("a", (), 3), ("b", (), 0))), ((), END, ()), ((), NEVER, ())]
        self.assertEqual(len(Table(sheet, [((), 0)], right)), 4)
        wrong = [right[0], ((), STEP, (("a", (), 0), ("b", (), 0))), ((), STEP, (("a", (), 4), ("b", (), 3))), right[2], right[3]]
        self.assertEqual(raised(Table, sheet, [((), 0)], wrong), (Wrong, {"place": 2}))
        wrong = [((), STEP, (("a", (), 2), ("b", (), 1))), ((), END, ()), ((), NEVER, ())]
        self.assertEqual(raised(Table, sheet, [((), 0)], wrong), (Wrong, {"place": 2}))
        self.assertEqual(raised(Table, sheet, [((), 1)], [((), END, ()), ((), NEVER, ())]), (Wrong, {"place": 2}))

    def test_tables_need_not_be_least(self):
        sheet = Sheet([], [], [("s", [], ["a", "b"])])
        states = [((), STEP, (("a", (), 1), ("b", (), 2))), ((), END, ()), ((), END, ())]
        self.assertEqual(len(Table(sheet, [((), 0)], states)), 3)

    def test_twisted_states_are_wrong_or_tables(self):
        for thing in samples.twisted(STATES):
            told = raised(Table, SHEET, BEGINS, thing)
            if told[0] == "returned":
                self.assertEqual(forms(told[1].states()), forms(list(thing)))
            else:
                self.assertEqual(told, (Wrong, {"place": 2}))
        for thing in samples.twisted(BEGINS):
            told = raised(Table, SHEET, thing, STATES)
            if told[0] == "returned":
                self.assertEqual(forms(told[1].begins()), forms(list(thing)))
            else:
                self.assertIs(told[0], Wrong)

    def test_no_answers_that_can_be(self):
        sheet = Sheet([], [("p", [])], [], [("never", (("p", True),)), ("never", (("p", False),))])
        self.assertEqual(len(Table(sheet, [], [])), 0)
        self.assertEqual(raised(Table, sheet, [], [(NO, END, ())]), (Wrong, {"place": 2}))


class Traces(unittest.TestCase):
    def setUp(self):
        self.table = Table(SHEET, BEGINS, STATES)

    def test_going_along(self):
        told = [([], YES, 1), ([("s", "bad", NO)], YES, 0), ([("s", "bad", YES), ("s", "ok", NO)], YES, 2),
                ([("s", "ok", YES)], NO, 3), ([("s", "bad", NO)] * 300, NO, 0)]
        for turns, answers, state in told:
            for kind in (list, tuple):
                trace = (answers, kind(turns))
                self.assertIs(self.table.goes_along(trace), True)
                self.assertEqual(forms(self.table.state_behind(trace)), forms(state))
                self.assertEqual(forms(self.table.shows(trace)), forms(STATES[state][1]))

    def test_where_it_does_not_go_along(self):
        turn, last = ("s", "bad", NO), ("s", "ok", YES)
        told = [([last, last], 2), ([turn, ("s", "no", NO)], 2), ([("x", "bad", NO)], 1), ([turn, turn, last, turn], 4),
                ([("s", "bad", (0,))], 1), ([turn] * 299 + [last, turn], 301)]
        for turns, at in told:
            for kind in (list, tuple):
                trace = (NO, kind(turns))
                self.assertIs(self.table.goes_along(trace), False)
                self.assertEqual(raised(self.table.shows, trace), (NoTrace, {"at": at}))
                self.assertEqual(raised(self.table.state_behind, trace), (NoTrace, {"at": at}))

    def test_answers_that_cannot_be(self):
        sheet = SHEET.with_fact(("never", (("p", True),)))
        table = Table(sheet, [(NO, 0)], [(NO, STEP, (("bad", NO, 0), ("ok", NO, 1))), (NO, END, ())])
        self.assertEqual(raised(table.shows, (YES, [])), (NoTrace, {"at": 0}))
        self.assertEqual(raised(table.state_behind, (YES, [("s", "bad", YES)])), (NoTrace, {"at": 0}))
        self.assertEqual(raised(table.shows, (NO, [("s", "bad", YES)])), (NoTrace, {"at": 1}))
        self.assertIs(table.goes_along((YES, [])), False)

    def test_any_value(self):
        for thing in samples.ODDITIES + [SHEET, self.table, (NO,), (NO, [], []), [NO, []], ((0,), []), (NO, None), (NO, [None]),
                                         ([False], []), (NO, {}), (NO, [["s", "bad", NO]]), (NO, [("s", "bad")])]:
            self.assertIs(self.table.goes_along(thing), forms(thing) == forms((NO, [])))

    def test_tables_and_machines_go_along_the_same_traces(self):
        for sheet, machine in machines(60):
            ground, table, loose = oracle.Ground(sheet), table_of(machine), unfolded(machine)
            for trace, situation in oracle.traces(ground, machine, 2):
                for one in (table, loose):
                    self.assertIs(one.goes_along(trace), True)
                    self.assertEqual(one.shows(trace), machine.shows(trace))
                    self.assertEqual(one.states()[one.state_behind(trace)][0], situation[1])
                for thing in samples.twisted(trace):
                    for one in (table, loose):
                        self.assertIs(one.goes_along(thing), machine.goes_along(thing))


class Least(unittest.TestCase):
    def test_the_examples(self):
        sheet = Sheet(["c"], [("p", ["c"])], [("s", ["c"], ["ok"])])
        one, other = machine_of(Program(sheet, (("if", "p", (DONE,), (DONE,)),))), machine_of(Program(sheet, (DONE,)))
        third = machine_of(Program(sheet, (("if", "p", (DONE,), ()),)))
        self.assertEqual(len(table_of(one)), 4)
        self.assertIs(table_of(one) == table_of(other), True)
        self.assertIs(table_of(machine_from(table_of(third))) == table_of(third), True)

    def test_a_table_by_hand(self):
        self.assertEqual(forms(table_of(MACHINE).states()), forms(STATES))
        self.assertEqual(forms(table_of(MACHINE).begins()), forms(BEGINS))
        self.assertTrue(table_of(MACHINE).sheet == SHEET)
        for point, shown in [(END, END), (ROUND, NEVER), (("mark", "w", 0), NEVER)]:
            told = Table(SHEET, BEGINS, [(NO, shown, ()), (YES, shown, ())])
            self.assertTrue(table_of(Machine(SHEET, [point])) == told)

    def test_states_that_show_the_same_are_one(self):
        one = Machine(SHEET, [("do", "s", (("bad", 0), ("ok", 0)))])
        other = Machine(SHEET, [("do", "s", (("bad", 1), ("ok", 2))), ("do", "s", (("bad", 2), ("ok", 1))), ("do", "s", (("bad", 0), ("ok", 1)))])
        self.assertEqual([len(table_of(one)), table_of(one) == table_of(other)], [2, True])

    def test_the_fewest_states(self):
        parts = 0
        for sheet, machine in machines(150):
            ground = oracle.Ground(sheet)
            alike = oracle.alike(ground, machine, machine)
            lots = []
            for point, answers in sorted(oracle.levels(ground, machine)):
                if not any((point, other, answers) in alike for other, told in lots if told == answers):
                    lots.append((point, answers))
            self.assertEqual(len(table_of(machine)), len(lots))
            parts += len(unfolded(machine)) > len(lots)
        self.assertGreater(parts, 10)

    def test_two_machines_show_the_same_if_their_tables_are_equal(self):
        seen = {True: 0, False: 0}
        for seed in range(200):
            luck = samples.dice(seed)
            sheet = samples.random_sheet(luck, 2, 2)
            one, other = samples.random_machine(luck, sheet, 3), samples.random_machine(luck, sheet, 4)
            same = show_same(one, other)
            self.assertIs(table_of(one) == table_of(other), same)
            self.assertIs(is_table_of(one, table_of(other)), same)
            self.assertIs(is_table_of(one, unfolded(other)), same)
            seen[same] += 1
        self.assertGreater(min(seen.values()), 20)

    def test_is_table_of(self):
        self.assertIs(is_table_of(MACHINE, Table(SHEET, BEGINS, STATES)), True)
        other = Sheet(["c"], SHEET.asks()[::-1], SHEET.steps())
        self.assertIs(is_table_of(MACHINE, Table(other, BEGINS, STATES)), True)
        wrong = [Table(SHEET, BEGINS, STATES[:3] + [(YES, NEVER, ())]), Table(SHEET, BEGINS, [(NO, END, ()), (YES, END, ())]),
                 Table(Sheet(["c", "d"], SHEET.asks(), SHEET.steps()), BEGINS, STATES), MACHINE, SHEET, STATES, Table,
                 (SHEET, BEGINS, STATES)]
        for thing in wrong + samples.ODDITIES:
            self.assertIs(is_table_of(MACHINE, thing), False)

    def test_a_table_that_is_not_least(self):
        goals = (("bad", NO, 2), ("bad", YES, 1), ("ok", NO, 3), ("ok", YES, 4))
        states = [(NO, STEP, goals), (YES, STEP, goals), (NO, STEP, GOALS[:2] + goals[2:]), STATES[2], STATES[3]]
        table = Table(SHEET, BEGINS, states)
        self.assertIs(is_table_of(MACHINE, table), True)
        self.assertIs(table == table_of(MACHINE), False)
        self.assertTrue(table_of(machine_from(table)) == table_of(MACHINE))
        # one state deeper it shows another thing
        states[2] = (NO, STEP, goals[:3] + (("ok", YES, 5),))
        self.assertIs(is_table_of(MACHINE, Table(SHEET, BEGINS, states + [(YES, NEVER, ())])), False)

    def test_unfolded_tables(self):
        for sheet, machine in machines(100):
            loose = unfolded(machine)
            self.assertIs(is_table_of(machine, loose), True)
            self.assertIs(is_table_of(machine, table_of(machine)), True)
            self.assertLessEqual(len(table_of(machine)), len(loose))

    def test_sizes(self):
        sheet = Sheet(["c"], [("p", ["c"]), ("q", ["c"]), ("r", ["c"])], [("s", ["c"], ["a", "b", "o"])])
        points = [("do", "s", (("a", at + 1), ("b", at), ("o", 0))) for at in range(39)] + [END]
        machine = Machine(sheet, points)
        table = table_of(machine)
        self.assertEqual([len(table), is_table_of(machine, table)], [320, True])
        self.assertTrue(show_same(machine_from(table), machine))
        self.assertEqual(max(len(trace[1]) for trace in least_traces(table)), 39)


class Back(unittest.TestCase):
    def test_machines_from_tables(self):
        for sheet, machine in machines(150):
            for table in (table_of(machine), unfolded(machine)):
                back = machine_from(table)
                self.assertTrue(back.sheet == sheet)
                self.assertTrue(Machine(sheet, back.points()) == back)
                self.assertIs(show_same(back, machine), True)
                self.assertTrue(table_of(back) == table_of(machine))

    def test_machines_from_tables_with_facts(self):
        for seed in range(60):
            luck = samples.dice(seed)
            sheet = samples.random_sheet(luck, 3, 2, 6)
            machine = samples.random_machine(luck, sheet, 9)
            self.assertIs(is_table_of(machine_from(table_of(machine)), table_of(machine)), True)
            self.assertIs(show_same(machine_from(table_of(machine)), machine), True)

    def test_least_traces_by_hand(self):
        told = [(NO, []), (YES, []), (NO, [("s", "ok", NO)]), (NO, [("s", "ok", YES)])]
        self.assertEqual(forms(least_traces(Table(SHEET, BEGINS, STATES))), forms(told))
        sheet = Sheet(["c"], [("p", ["c"])], [("s", ["c"], ["a"]), ("t", [], ["b"])])
        goals, left = (("a", NO, 2), ("a", YES, 0)), (("b", NO, 1),)
        states = [(YES, ("do", "s"), goals), (NO, ("do", "t"), left), (NO, END, ())]
        self.assertEqual(raised(Table, sheet, [(NO, 1), (YES, 0)], states), (Wrong, {"place": 2}))
        states = [(NO, ("do", "t"), (("b", NO, 0),)), (YES, ("do", "s"), (("a", NO, 2), ("a", YES, 1))), (NO, END, ())]
        told = [(NO, []), (YES, []), (YES, [("s", "a", NO)])]
        self.assertEqual(least_traces(Table(sheet, [(NO, 0), (YES, 1)], states)), told)

    def test_least_traces_compared_with_all_traces(self):
        for sheet, machine in machines(80, 6):
            ground = oracle.Ground(sheet)
            some = oracle.traces(ground, machine, 3)
            for table in (table_of(machine), unfolded(machine)):
                best = {}
                for trace, _ in sorted(some, key=lambda one: (len(one[0][1]), one[0])):
                    best.setdefault(table.state_behind(trace), trace)
                told = least_traces(table)
                self.assertEqual(len(told), len(table))
                for state, trace in enumerate(told):
                    self.assertEqual(table.state_behind(trace), state)
                    if state in best:
                        self.assertEqual(forms(trace), forms(best[state]))
                    else:
                        self.assertGreater(len(trace[1]), 3)

    def test_what_is_returned_is_new_and_always_the_same(self):
        table = table_of(MACHINE)
        before = least_traces(table)
        for trace in least_traces(table):
            trace[1].append("x")
        least_traces(table).clear()
        self.assertEqual(least_traces(table), before)
        self.assertTrue(machine_from(table) == machine_from(table_of(MACHINE)))


if __name__ == "__main__":
    unittest.main()
