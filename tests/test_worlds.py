import unittest

import oracle
import samples
from checks import forms, raised
from fourfaces.answers import all_answers, can_be, lets
from fourfaces.errors import NoTrace, Wrong
from fourfaces.sheets import Sheet
from fourfaces.worlds import World, is_trace, trace_world, whole_world

FACTS = [("after", "s", "bad", "p", True), ("never", (("p", True), ("q", True)))]
SHEET = Sheet(["c", "d"], [("p", ["c"]), ("q", ["d"])], [("s", ["c"], ["bad", "ok"]), ("t", [], ["ok"])], FACTS)
STATES = [((False, False), {"s": ("bad", 1), "t": ("ok", 0)}), ((True, False), {"s": ("ok", 0), "t": ("ok", 1)})]
TRACE = ((False, False), [("s", "bad", (True, False)), ("t", "ok", (True, False)), ("s", "ok", (False, False))])


class Made(unittest.TestCase):
    def test_the_examples(self):
        world = World(SHEET, STATES)
        self.assertIs(world.keeps(), True)
        self.assertEqual(World(SHEET, [((False, True), {"s": ("bad", 0), "t": ("ok", 0)})]).broken(), ("lead", 0, "s"))
        self.assertEqual(len(whole_world(SHEET)), 3)
        self.assertEqual(trace_world(SHEET, ((False, False), [("s", "bad", (True, False))])).lead(0, "s"), ("bad", 1))

    def test_what_it_tells(self):
        for states in (STATES, tuple(STATES)):
            world = World(SHEET, states)
            self.assertEqual(forms(world.states()), forms(STATES))
            self.assertEqual(len(world), 2)
            self.assertIs(world.sheet == SHEET, True)
            self.assertEqual(forms([world.answers(0), world.answers(1)]), forms([(False, False), (True, False)]))
            self.assertEqual(forms(world.lead(0, "s")), forms(("bad", 1)))
            self.assertEqual(forms(world.lead(1, "t")), forms(("ok", 1)))

    def test_the_keys_of_the_leads_ascend(self):
        states = [((False, False), {"t": ("ok", 0), "s": ("ok", 0)})]
        self.assertEqual(list(World(SHEET, states).states()[0][1]), ["s", "t"])

    def test_a_world_without_states(self):
        for states in ([], ()):
            world = World(SHEET, states)
            self.assertEqual([world.states(), len(world), world.keeps(), world.broken()], [[], 0, True, None])

    def test_a_sheet_without_steps(self):
        world = World(Sheet([], [("p", [])], []), [((True,), {})])
        self.assertEqual([world.states(), world.keeps()], [[((True,), {})], True])

    def test_what_is_returned_and_what_is_passed(self):
        states = [(answers, dict(leads)) for answers, leads in STATES]
        world = World(SHEET, states)
        states[0][1]["s"] = ("ok", 0)
        states[1][1].clear()
        states.clear()
        self.assertEqual(world.states(), STATES)
        told = world.states()
        told[0][1]["s"] = ("ok", 0)
        told[1][1].clear()
        told.pop()
        self.assertEqual(world.states(), STATES)
        self.assertEqual(world.lead(0, "s"), ("bad", 1))

    def test_equal_worlds(self):
        one = World(SHEET, STATES)
        other = World(Sheet(["d", "c"], SHEET.asks(), SHEET.steps(), FACTS[::-1]), tuple(STATES))
        turned = [(answers, {"t": leads["t"], "s": leads["s"]}) for answers, leads in STATES]
        self.assertIs(one == other, True)
        self.assertIs(one != other, False)
        self.assertIs(one == World(SHEET, turned), True)

    def test_unlike_worlds(self):
        one = World(SHEET, STATES)
        more = STATES + [STATES[0]]
        answers = [((False, True), STATES[0][1]), STATES[1]]
        lead = [(STATES[0][0], {"s": ("ok", 1), "t": ("ok", 0)}), STATES[1]]
        state = [(STATES[0][0], {"s": ("bad", 0), "t": ("ok", 0)}), STATES[1]]
        others = [World(SHEET, given) for given in (more, answers, lead, state, [])]
        others += [World(SHEET.with_fact(("never", (("q", True),))), STATES)]
        for other in others + samples.ODDITIES + [SHEET, STATES, World]:
            self.assertIs(one == other, False)
            self.assertIs(one != other, True)

    def test_wrong_sheets(self):
        for thing in samples.ODDITIES + [SHEET.steps(), Sheet, World(SHEET, STATES)]:
            self.assertEqual(raised(World, thing, STATES), (Wrong, {"place": 0}))
            self.assertEqual(raised(World, thing, None), (Wrong, {"place": 0}))

    def test_wrong_states(self):
        answers, leads = STATES[0]
        wrong = [None, "", {}, 0, True, SHEET, [None], [()], [(answers,)], [(answers, None)], [(answers, [])],
                 [(answers, {})], [[answers, {"s": ("ok", 0), "t": ("ok", 0)}]], {0: STATES[0]}, iter(STATES),
                 [((), {"s": ("ok", 0), "t": ("ok", 0)})], [((0, 0), {"s": ("ok", 0), "t": ("ok", 0)})],
                 [([False, False], {"s": ("ok", 0), "t": ("ok", 0)})],
                 [((False, 0), {"s": ("ok", 0), "t": ("ok", 0)})], [(None, {"s": ("ok", 0), "t": ("ok", 0)})],
                 [(answers, {"s": ("ok", 0), "t": ("ok", 0)}, None)], STATES[:1]]
        for lead in [("ok", 1), ("ok", -1), ("ok", True), ("ok", False), ("no", 0), (None, 0), ["ok", 0], ("ok",),
                     ("ok", 0, 0), ("ok", "0"), None, 0, ("ok", None), (("ok",), 0), ("bad", 0), ("OK", 0), ()]:
            wrong.append([(answers, {"s": ("ok", 0), "t": lead})])
        for more in [{"s": ("ok", 0)}, {"t": ("ok", 0)}, {"s": ("ok", 0), "t": ("ok", 0), "x": ("ok", 0)},
                     {"s": ("ok", 0), "x": ("ok", 0)}, {"s": ("ok", 0), "t": ("ok", 0), 0: ("ok", 0)},
                     {"s": ("ok", 0), "t": ("ok", 0), ("s",): 0}, [("s", ("ok", 0)), ("t", ("ok", 0))]]:
            wrong.append([(answers, more)])
        for thing in wrong:
            with self.subTest(thing=repr(thing)):
                self.assertEqual(raised(World, SHEET, thing), (Wrong, {"place": 1}))

    def test_the_last_state_is_looked_at_too(self):
        states = STATES + [((False, False), {"s": ("ok", 2), "t": ("ok", 3)})]
        self.assertEqual(raised(World, SHEET, states), (Wrong, {"place": 1}))
        self.assertEqual(len(World(SHEET, states + [states[0]])), 4)

    def test_twisted_states_are_wrong_or_worlds(self):
        for thing in samples.twisted(STATES):
            told = raised(World, SHEET, thing)
            if told[0] == "returned":
                self.assertEqual(forms(told[1].states()), forms(list(thing)))
            else:
                self.assertEqual(told, (Wrong, {"place": 1}))


class Keeps(unittest.TestCase):
    def test_forbidden_comes_first(self):
        right = {"s": ("ok", 0), "t": ("ok", 0)}
        states = [((False, True), {"s": ("bad", 0), "t": ("ok", 0)}), ((True, True), right), ((True, True), right)]
        world = World(SHEET, states)
        self.assertEqual(forms(world.broken()), forms(("forbidden", 1)))
        self.assertIs(world.keeps(), False)

    def test_the_least_state_then_the_least_step(self):
        right = {"s": ("ok", 0), "t": ("ok", 0)}
        both = {"s": ("bad", 0), "t": ("ok", 2)}
        states = [((False, False), right), ((False, False), both), ((False, True), {"s": ("bad", 1), "t": ("ok", 0)})]
        self.assertEqual(forms(World(SHEET, states).broken()), forms(("lead", 1, "s")))
        states[1] = ((False, False), {"s": ("ok", 0), "t": ("ok", 2)})
        self.assertEqual(forms(World(SHEET, states).broken()), forms(("lead", 1, "t")))
        states[1] = ((False, False), {"s": ("ok", 0), "t": ("ok", 0)})
        self.assertEqual(forms(World(SHEET, states).broken()), forms(("lead", 2, "s")))

    def test_what_is_led_to_must_be_let(self):
        # t puts nothing, so it cannot lead to other answers; s puts only what p looks at
        for lead in [{"s": ("ok", 0), "t": ("ok", 1)}, {"s": ("ok", 2), "t": ("ok", 0)}, {"s": ("bad", 0), "t": ("ok", 0)}]:
            right = {"s": ("ok", 1), "t": ("ok", 1)}
            world = World(SHEET, [((False, False), lead), ((True, False), right), ((False, True), {"s": ("ok", 2), "t": ("ok", 2)})])
            self.assertIs(world.keeps(), False)

    def test_compared_with_the_definition(self):
        kept = 0
        for seed in range(150):
            luck = samples.dice(seed)
            sheet = samples.random_sheet(luck, 2, 2, 2, living=False)
            some = [luck.choice(all_answers(sheet)) for _ in range(luck.randint(1, 3))]
            states = [(answers, samples.random_leads(luck, sheet, some, range(len(some)))) for answers in some]
            world = World(sheet, states)
            told = self.first_broken(sheet, states)
            self.assertEqual(forms(world.broken()), forms(told))
            self.assertIs(world.keeps(), told is None)
            kept += told is None
        self.assertGreater(kept, 20)

    def first_broken(self, sheet, states):
        for at, (answers, _) in enumerate(states):
            if oracle.forbidden(sheet, answers):
                return ("forbidden", at)
        for at, (answers, leads) in enumerate(states):
            for step in sorted(leads):
                outcome, later = leads[step]
                if states[later][0] not in oracle.lets(sheet, answers, step, outcome):
                    return ("lead", at, step)
        return None

    def test_at_each_state_of_a_world_that_keeps_the_sheet_the_answers_can_be(self):
        for seed in range(60):
            luck = samples.dice(seed)
            sheet = samples.random_sheet(luck, living=False)
            world = whole_world(sheet)
            self.assertIs(world.keeps(), True)
            self.assertEqual([answers for answers, _ in world.states()], can_be(sheet))
            self.assertTrue(world.sheet == sheet)


class Traces(unittest.TestCase):
    def test_is_trace(self):
        for thing in [TRACE, (TRACE[0], tuple(TRACE[1])), ((False, True), []), ((True, False), ())]:
            self.assertIs(is_trace(SHEET, thing), True)

    def test_what_is_no_trace(self):
        begin, turns = TRACE
        wrong = [((True, True), []), ((0, 0), []), ((False, 0), []), ([False, False], []), ((False,), []), ((), []),
                 [begin, turns], (begin,), (begin, turns, []), (begin, None), (begin, {}), (begin, "st"), (begin, [None]),
                 (begin, [list(turns[0])]), (begin, [("s", "bad")]), (begin, [("s", "bad", (1, 0))]),
                 (begin, [("s", "bad", (False, False))]), (begin, [("s", "ok", (True, True))]),
                 (begin, [("t", "bad", begin)]), (begin, [("x", "ok", begin)]), (begin, [("t", "ok", (True, False))]),
                 (begin, [("s", "bad", [True, False])]), (begin, turns[1:]), (begin, turns + [("s", "no", begin)]),
                 (begin, [(None, "ok", begin)]), (begin, [("t", None, begin)]), (begin, [(["t"], "ok", begin)]),
                 (begin, [("t", ["ok"], begin)]), (begin, [("t", "ok", begin, begin)]), (begin, [()]), begin, turns]
        for thing in wrong + samples.ODDITIES:
            with self.subTest(thing=repr(thing)):
                self.assertIs(is_trace(SHEET, thing), False)

    def test_answers_that_cannot_be_are_in_no_trace(self):
        facts = [("after", "t", "o", "p", True)]
        sheet = Sheet(["c"], [("p", ["c"])], [("s", ["c"], ["a"]), ("t", [], ["o"])], facts)
        self.assertEqual(lets(sheet, (True,), "s", "a"), [(False,), (True,)])
        self.assertIs(is_trace(sheet, ((False,), [])), False)
        self.assertIs(is_trace(sheet, ((True,), [("s", "a", (False,))])), False)
        self.assertIs(is_trace(sheet, ((True,), [("s", "a", (True,))])), True)
        self.assertEqual(raised(trace_world, sheet, ((False,), [])), (NoTrace, {"at": 0}))
        self.assertEqual(raised(trace_world, sheet, ((True,), [("s", "a", (False,))])), (NoTrace, {"at": 1}))

    def test_a_sheet_without_answers_that_can_be(self):
        sheet = Sheet([], [("p", [])], [], [("never", (("p", True),)), ("never", (("p", False),))])
        self.assertEqual(len(whole_world(sheet)), 0)
        self.assertIs(is_trace(sheet, ((True,), [])), False)
        self.assertEqual(raised(trace_world, sheet, ((True,), [])), (NoTrace, {"at": 0}))

    def test_a_sheet_without_asks(self):
        sheet = Sheet([], [], [("s", [], ["o"])])
        self.assertIs(is_trace(sheet, ((), [("s", "o", ())])), True)
        self.check_world(sheet, ((), [("s", "o", ()), ("s", "o", ())]))

    def check_world(self, sheet, trace):
        world = trace_world(sheet, trace)
        answers, turns = trace
        self.assertIs(world.keeps(), True)
        self.assertTrue(world.sheet == sheet)
        self.assertLessEqual(len(world), len(turns) + 1 + len(can_be(sheet)))
        self.assertEqual(world.answers(0), answers)
        for at, (step, outcome, later) in enumerate(turns):
            self.assertEqual(world.lead(at, step), (outcome, at + 1))
            self.assertEqual(world.answers(at + 1), later)

    def test_trace_worlds(self):
        for trace in [TRACE, (TRACE[0], tuple(TRACE[1])), ((False, True), []), ((False, True), ())]:
            self.check_world(SHEET, trace)

    def test_trace_worlds_of_many_sheets(self):
        for seed in range(80):
            luck = samples.dice(seed)
            sheet = samples.random_sheet(luck)
            ground = oracle.Ground(sheet)
            answers, turns = luck.choice(ground.can), []
            now = answers
            for _ in range(luck.randint(0, 9) if sheet.steps() else 0):
                choice = [(step, outcome, later) for (before, step, outcome), some in ground.behind.items()
                          if before == now for later in some]
                turns.append(luck.choice(choice))
                now = turns[-1][2]
            self.assertIs(is_trace(sheet, (answers, turns)), True)
            self.check_world(sheet, (answers, turns))

    def test_where_it_is_no_trace(self):
        begin, turns = TRACE
        told = [(((True, True), turns), 0), ((begin, [("s", "bad", (False, False))] + turns), 1),
                ((begin, turns[:1] + [("t", "ok", (False, False))]), 2), ((begin, turns[:2] + [("s", "bad", begin)]), 3),
                ((begin, tuple(turns + turns[1:])), 4), (((True, True), [("s", "bad", (True, True))]), 0)]
        for trace, at in told:
            self.assertEqual(raised(trace_world, SHEET, trace), (NoTrace, {"at": at}))
            self.assertIs(is_trace(SHEET, trace), False)

    def test_a_long_trace(self):
        turns = [("s", "bad", (True, False)), ("s", "ok", (False, False))] * 150
        self.check_world(SHEET, ((False, False), turns))
        wrong = turns[:-1] + [("s", "bad", (False, False))]
        self.assertEqual(raised(trace_world, SHEET, ((False, False), wrong)), (NoTrace, {"at": 300}))

    def test_a_world_of_many_states(self):
        states = [((False, at % 2 == 0), {"s": ("ok", (at + 2) % 400), "t": ("ok", at)}) for at in range(400)]
        world = World(SHEET, states)
        self.assertEqual([len(world), world.keeps()], [400, True])
        states[399] = (states[399][0], {"s": ("ok", 0), "t": ("ok", 399)})
        self.assertEqual(World(SHEET, states).broken(), ("lead", 399, "s"))


if __name__ == "__main__":
    unittest.main()
