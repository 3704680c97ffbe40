import unittest

import oracle
import samples
from checks import forms
from fourfaces.answers import (
    all_answers, are_answers, behind, can_be, idle_facts, implied, is_forbidden, is_out_list, lets, out_list,
)
from fourfaces.sheets import Sheet

FACTS = [("after", "s", "bad", "p", True), ("never", (("p", True), ("q", True)))]


def sheet_with(facts=(), steps=None):
    steps = [("s", ["c"], ["bad", "ok"]), ("t", [], ["ok"])] if steps is None else steps
    return Sheet(["c", "d"], [("p", ["c"]), ("q", ["d"])], steps, facts)


def sheets(many, most_asks=3):
    for seed in range(many):
        yield samples.random_sheet(samples.dice(seed), most_asks, living=False)


def steps_of(sheet):
    return [(step, outcome) for step, _, outcomes in sheet.steps() for outcome in outcomes]


class Answers(unittest.TestCase):
    def test_the_examples(self):
        sheet = sheet_with(FACTS)
        self.assertEqual(can_be(sheet), [(False, False), (False, True), (True, False)])
        self.assertEqual(lets(sheet, (False, True), "s", "ok"), [(False, True)])
        self.assertEqual(lets(sheet, (False, True), "s", "bad"), [])
        self.assertEqual(lets(sheet, (False, False), "s", "bad"), [(True, False)])
        self.assertEqual(implied(sheet, (("q", True),)), [("p", False), ("q", True)])
        self.assertEqual(idle_facts(sheet), [])
        self.assertIs(is_out_list(sheet, [((True, True), None)]), True)
        self.assertIs(is_out_list(sheet, []), False)

    def test_are_answers(self):
        sheet = sheet_with()
        for answers in all_answers(sheet):
            self.assertIs(are_answers(sheet, answers), True)
        wrong = [(), (True,), (True, True, True), [True, True], (1, 0), (0, 0), (True, 0), (1, True), (None, True),
                 ("p", "q"), None, "", {}, True, 0, ((True,), True), (True, "q"), {"p": True, "q": False}]
        for thing in wrong + samples.ODDITIES + [sheet]:
            self.assertIs(are_answers(sheet, thing), False)

    def test_are_answers_without_asks(self):
        sheet = Sheet([], [], [("s", [], ["o"])])
        self.assertIs(are_answers(sheet, ()), True)
        for thing in [[], None, "", {}, (True,), ((),), 0, False]:
            self.assertIs(are_answers(sheet, thing), False)

    def test_all_answers(self):
        self.assertEqual(forms(all_answers(Sheet([], [], []))), forms([()]))
        told = [(False, False), (False, True), (True, False), (True, True)]
        self.assertEqual(forms(all_answers(sheet_with())), forms(told))
        for sheet in sheets(40):
            self.assertEqual(all_answers(sheet), oracle.all_answers(sheet))

    def test_answers_go_by_the_ascending_names_of_asks(self):
        sheet = Sheet(["c"], [("z", ["c"]), ("a", [])], [], [("never", (("a", True),))])
        self.assertEqual(can_be(sheet), [(False, False), (False, True)])

    def test_is_forbidden(self):
        sheet = sheet_with(FACTS)
        told = [is_forbidden(sheet, answers) for answers in all_answers(sheet)]
        self.assertEqual(forms(told), forms([False, False, False, True]))
        single = sheet_with([("never", (("q", False),)), ("never", (("p", True), ("q", True)))])
        self.assertEqual([is_forbidden(single, answers) for answers in all_answers(single)], [True, False, True, True])
        self.assertIs(is_forbidden(Sheet([], [], []), ()), False)

    def test_after_facts_forbid_nothing(self):
        sheet = sheet_with([FACTS[0]])
        self.assertEqual([is_forbidden(sheet, answers) for answers in all_answers(sheet)], [False] * 4)

    def test_compared_with_the_definitions(self):
        for sheet in sheets(150):
            for answers in all_answers(sheet):
                self.assertIs(is_forbidden(sheet, answers), oracle.forbidden(sheet, answers))
                for step, outcome in steps_of(sheet):
                    told = oracle.lets(sheet, answers, step, outcome)
                    self.assertEqual(forms(lets(sheet, answers, step, outcome)), forms(told))

    def test_can_be_compared_with_the_greatest_closed_lot(self):
        for sheet in sheets(150, 2):
            self.assertEqual(forms(can_be(sheet)), forms(oracle.can_be(sheet)))
        for sheet in sheets(150, 3):
            self.assertEqual(can_be(sheet), oracle.by_striking(sheet))

    def test_behind(self):
        for sheet in sheets(100):
            can = can_be(sheet)
            for answers in all_answers(sheet):
                for step, outcome in steps_of(sheet):
                    some = [later for later in oracle.lets(sheet, answers, step, outcome) if later in can]
                    self.assertEqual(behind(sheet, answers, step, outcome), some)

    def test_lets_behind_forbidden_answers_too(self):
        sheet = sheet_with(FACTS)
        self.assertEqual(lets(sheet, (True, True), "s", "ok"), [(False, True)])
        self.assertEqual(lets(sheet, (True, True), "t", "ok"), [])

    def test_lets_may_let_what_cannot_be(self):
        # behind s the ask p is no more, and then the step t cannot be done
        facts = [("after", "t", "o", "p", True)]
        sheet = Sheet(["c"], [("p", ["c"])], [("s", ["c"], ["a"]), ("t", [], ["o"])], facts)
        self.assertEqual(lets(sheet, (True,), "s", "a"), [(False,), (True,)])
        self.assertEqual(behind(sheet, (True,), "s", "a"), [(True,)])
        self.assertEqual(can_be(sheet), [(True,)])

    def test_a_step_that_can_never_be_done(self):
        facts = [("after", "t", "o", "p", True), ("after", "t", "o", "p", False)]
        sheet = sheet_with(facts, [("t", ["c"], ["o"])])
        self.assertEqual(can_be(sheet), [])
        self.assertIsNone(implied(sheet, ()))
        self.assertEqual(behind(sheet, (True, True), "t", "o"), [])

    def test_a_sheet_without_steps_or_facts(self):
        self.assertEqual(can_be(sheet_with([], [])), all_answers(sheet_with()))
        self.assertEqual(can_be(Sheet([], [], [])), [()])
        sheet = Sheet([], [], [("s", [], ["a", "b"])])
        self.assertEqual([can_be(sheet), lets(sheet, (), "s", "b"), out_list(sheet)], [[()], [()], []])

    def test_one_outcome_is_enough_for_a_step(self):
        facts = [("after", "s", "bad", "p", True), ("after", "s", "bad", "p", False)]
        self.assertEqual(len(can_be(sheet_with(facts))), 4)

    def test_what_falls_one_behind_the_other(self):
        # from (F, F) only (F, T) can come, from which the step t cannot be done
        facts = [("never", (("p", True),)), ("after", "s", "o", "q", True), ("after", "t", "o", "q", False)]
        sheet = Sheet(["c", "d"], [("p", ["c"]), ("q", ["d"])], [("s", ["d"], ["o"]), ("t", [], ["o"])], facts)
        self.assertEqual(can_be(sheet), [])
        free = [(False, False), (False, True)]
        ahead = [((True, False), None), ((True, True), None)]
        self.assertIs(is_out_list(sheet, ahead + [(free[1], "t"), (free[0], "s")]), True)
        self.assertIs(is_out_list(sheet, ahead + [(free[0], "s"), (free[1], "t")]), False)
        self.assertEqual(out_list(sheet)[2:], [(free[1], "t"), (free[0], "s")])
        # and the same with the answers the other way round
        facts = [("never", (("p", True),)), ("after", "s", "o", "q", False), ("after", "t", "o", "q", True)]
        sheet = Sheet(["c", "d"], [("p", ["c"]), ("q", ["d"])], [("s", ["d"], ["o"]), ("t", [], ["o"])], facts)
        self.assertEqual(out_list(sheet)[2:], [(free[0], "t"), (free[1], "s")])

    def test_a_long_fall(self):
        # (F, F, F) leads by s to (F, F, T) alone, that to (F, T, F), that to (F, T, T), where t cannot be done
        asks = [("p", ["c"]), ("q", ["d"]), ("r", ["e"])]
        for truth in (True, False):
            facts = [("never", (("p", True),)), ("after", "t", "o", "r", not truth), ("after", "s", "a", "r", truth),
                     ("after", "u", "o", "q", truth)]
            sheet = Sheet(["c", "d", "e"], asks, [("s", ["e"], ["a"]), ("t", [], ["o"]), ("u", ["d"], ["o"])], facts)
            self.assertEqual(can_be(sheet), [])
            self.assertIs(is_out_list(sheet, out_list(sheet)), True)


class Implied(unittest.TestCase):
    def test_implied(self):
        sheet = sheet_with(FACTS)
        self.assertEqual(forms(implied(sheet, ())), forms([]))
        self.assertEqual(forms(implied(sheet, (("p", True),))), forms([("p", True), ("q", False)]))
        self.assertEqual(implied(sheet, (("p", False),)), [("p", False)])
        self.assertEqual(implied(sheet, (("p", False), ("q", False))), [("p", False), ("q", False)])
        self.assertIsNone(implied(sheet, (("p", True), ("q", True))))

    def test_without_asks(self):
        self.assertEqual(implied(Sheet([], [], []), ()), [])

    def test_compared_with_the_definition(self):
        for sheet in sheets(80):
            can, names = can_be(sheet), sheet.names()
            for number in range(3 ** len(names)):
                pairs = []
                for name in names:
                    number, part = divmod(number, 3)
                    pairs += [(name, part == 1)] if part else []
                some = [answers for answers in can if all(answers[names.index(ask)] is truth for ask, truth in pairs)]
                told = []
                for at, name in enumerate(names):
                    for truth in (False, True):
                        if some and all(answers[at] is truth for answers in some):
                            told.append((name, truth))
                self.assertEqual(forms(implied(sheet, tuple(pairs))), forms(told if some else None))


class OutLists(unittest.TestCase):
    def test_out_lists_are_right(self):
        for sheet in sheets(150):
            told = out_list(sheet)
            self.assertIs(is_out_list(sheet, told), True)
            left = [answers for answers in all_answers(sheet) if answers not in can_be(sheet)]
            self.assertEqual(sorted(answers for answers, why in told), left)
            self.check_by_hand(sheet, told)

    def check_by_hand(self, sheet, told):
        ahead = []
        for answers, why in told:
            self.assertNotIn(answers, ahead)
            if why is None:
                self.assertTrue(oracle.forbidden(sheet, answers))
            else:
                for step, outcome in steps_of(sheet):
                    if step == why:
                        self.assertLessEqual(set(oracle.lets(sheet, answers, step, outcome)), set(ahead))
            ahead.append(answers)

    def test_all_answers_out(self):
        sheet = Sheet([], [("p", [])], [], [("never", (("p", True),)), ("never", (("p", False),))])
        told = out_list(sheet)
        self.assertEqual(sorted(told), [((False,), None), ((True,), None)])
        self.assertIs(is_out_list(sheet, told[::-1]), True)

    def test_what_is_no_out_list(self):
        sheet = sheet_with(FACTS)
        right = [((True, True), None)]
        wrong = [[], right + right, [((True, False), None)], right + [((True, False), None)], [((1, 1), None)],
                 [[(True, True), None]], tuple(right), [((True, True),)], [((True, True), None, None)],
                 [((True, True), "s")], [((True, True), "x")], [((True, True), False)], [((True, True), 0)],
                 [((True, True), "")], right + [((False, False), "s")], right + [((True, False), "t")],
                 [((True, True), ["s"])], None, {(True, True): None}, "", [None], [((True, True), ("s",))]]
        self.assertIs(is_out_list(sheet, right), True)
        for thing in wrong + samples.ODDITIES:
            with self.subTest(thing=repr(thing)):
                self.assertIs(is_out_list(sheet, thing), False)

    def test_forbidden_answers_may_be_out_by_a_step_too(self):
        # the step t leaves all asks as they are, so it leads from (T, T) only to what is forbidden
        sheet = sheet_with(FACTS)
        self.assertEqual(lets(sheet, (True, True), "t", "ok"), [])
        self.assertIs(is_out_list(sheet, [((True, True), "t")]), True)

    def test_a_step_is_no_reason_for_itself(self):
        # s leads from (F) to (F) alone: nothing is out
        sheet = Sheet(["c"], [("p", ["c"])], [("s", [], ["o"])])
        self.assertIs(is_out_list(sheet, []), True)
        self.assertIs(is_out_list(sheet, [((False,), "s")]), False)

    def test_all_outcomes_count(self):
        facts = [("after", "s", "bad", "p", True), ("after", "s", "bad", "p", False)]
        sheet = sheet_with(facts)
        self.assertIs(is_out_list(sheet, []), True)
        self.assertIs(is_out_list(sheet, [((False, False), "s")]), False)

    def test_twisted_out_lists(self):
        for sheet in sheets(40):
            told = out_list(sheet)
            for thing in samples.twisted(told):
                answers = is_out_list(sheet, thing)
                self.assertIs(type(answers), bool)
                if answers:
                    self.check_by_hand(sheet, thing)
                    self.assertEqual(len(thing), len(told))

    def test_a_sheet_where_nothing_is_out(self):
        sheet = sheet_with()
        self.assertEqual(out_list(sheet), [])
        self.assertIs(is_out_list(sheet, []), True)
        self.assertIs(is_out_list(sheet, ()), False)


class IdleFacts(unittest.TestCase):
    def test_idle_facts(self):
        # the greater "never" fact says nothing beyond the lesser one
        facts = [("never", (("p", True),)), ("never", (("p", True), ("q", True))), ("after", "s", "bad", "p", False)]
        sheet = sheet_with(facts)
        self.assertEqual(sheet.facts()[0], ("after", "s", "bad", "p", False))
        self.assertEqual(idle_facts(sheet), [0, 2])

    def test_a_fact_that_answers_must_have_anyway(self):
        # from answers with p the step t, which leaves p, could not be done
        facts = [("never", (("p", True),)), ("after", "t", "ok", "p", False)]
        self.assertEqual(idle_facts(sheet_with(facts)), [0, 1])

    def test_two_facts_each_idle_by_itself(self):
        # behind t the ask p is as ahead, and never True: so "never" makes the other one idle, not itself
        sheet = sheet_with([("never", (("p", True),)), ("after", "s", "bad", "p", False), ("after", "s", "ok", "p", False)])
        self.assertEqual(idle_facts(sheet), [0, 1])

    def test_no_facts(self):
        self.assertEqual(idle_facts(sheet_with()), [])

    def test_compared_with_the_definition(self):
        found = 0
        for seed in range(150):
            sheet = samples.random_sheet(samples.dice(seed), 2, 2, 5, living=False)
            told, ground = [], oracle.Ground(sheet)
            for at, fact in enumerate(sheet.facts()):
                rest = sheet.facts()[:at] + sheet.facts()[at + 1:]
                other = oracle.Ground(Sheet(sheet.cells(), sheet.asks(), sheet.steps(), rest))
                if other.can == ground.can and other.behind == ground.behind:
                    told.append(at)
            self.assertEqual(idle_facts(sheet), told)
            found += len(told)
        self.assertGreater(found, 50)


class New(unittest.TestCase):
    def test_what_is_returned_is_new_and_always_the_same(self):
        sheet = sheet_with(FACTS)
        asks = [all_answers, can_be, out_list, idle_facts, lambda sheet: implied(sheet, ()),
                lambda sheet: lets(sheet, (False, False), "s", "bad"),
                lambda sheet: behind(sheet, (False, False), "s", "bad")]
        before = [ask(sheet) for ask in asks]
        for ask in asks:
            ask(sheet).append("x")
        self.assertEqual([ask(sheet) for ask in asks], before)
        self.assertEqual([ask(sheet_with(FACTS[::-1])) for ask in asks], before)


if __name__ == "__main__":
    unittest.main()
