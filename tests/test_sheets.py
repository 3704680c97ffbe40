import unittest

import samples
from checks import forms, raised
from fourfaces.errors import NoAsk, NoCell, NoFact, NoOutcome, NoStep, Twice, Wrong
from fourfaces.sheets import Sheet

CELLS = ["c", "d"]
ASKS = [("q", ["d"]), ("p", ["c"])]
STEPS = [("s", ["c"], ["ok", "bad"]), ("t", [], ["ok"])]
FACTS = [("after", "s", "bad", "p", True), ("never", (("p", True), ("q", False)))]


class Made(unittest.TestCase):
    def setUp(self):
        self.sheet = Sheet(CELLS, ASKS, STEPS, FACTS)

    def test_the_examples(self):
        sheet = Sheet(CELLS, ASKS, STEPS, [("after", "s", "bad", "p", True)])
        self.assertEqual(sheet.names(), ["p", "q"])
        self.assertEqual(sheet.outcomes("s"), ["bad", "ok"])
        self.assertEqual(sheet.leaves("s"), ["q"])
        self.assertEqual(sheet.leaves("t"), ["p", "q"])
        self.assertEqual(sheet.renamed("ask", {"q": "a"}).asks()[0], ("a", ("d",)))

    def test_what_it_has_is_told_in_ascending_order(self):
        sheet = Sheet(("d", "c"), tuple(ASKS), (STEPS[1], STEPS[0]), tuple(FACTS[::-1]))
        self.assertEqual(forms(sheet.cells()), forms(["c", "d"]))
        self.assertEqual(forms(sheet.names()), forms(["p", "q"]))
        self.assertEqual(forms(sheet.asks()), forms([("p", ("c",)), ("q", ("d",))]))
        self.assertEqual(forms(sheet.steps()), forms([("s", ("c",), ("bad", "ok")), ("t", (), ("ok",))]))
        self.assertEqual(forms(sheet.facts()), forms(FACTS))
        self.assertEqual(forms(sheet.looks("q")), forms(["d"]))
        self.assertEqual(forms(sheet.puts("s")), forms(["c"]))
        self.assertEqual(forms(sheet.puts("t")), forms([]))
        self.assertEqual(forms(sheet.outcomes("s")), forms(["bad", "ok"]))

    def test_inner_names_are_put_in_order(self):
        sheet = Sheet(["e", "c", "d"], [("p", ("e", "c", "d"))], [("s", ["d", "c"], ("z", "a", "m"))])
        self.assertEqual(sheet.cells(), ["c", "d", "e"])
        self.assertEqual(sheet.asks(), [("p", ("c", "d", "e"))])
        self.assertEqual(sheet.steps(), [("s", ("c", "d"), ("a", "m", "z"))])
        self.assertEqual([sheet.looks("p"), sheet.puts("s"), sheet.outcomes("s")],
                         [["c", "d", "e"], ["c", "d"], ["a", "m", "z"]])

    def test_what_stands_twice_counts_once(self):
        sheet = Sheet(["c", "c", "d"], [("p", ["c", "c"]), ("q", ["d"])],
                      [("s", ["c", "c"], ["ok", "bad", "ok"]), ("t", [], ["ok"])], FACTS + FACTS)
        self.assertTrue(sheet == self.sheet)
        self.assertEqual(sheet.cells(), ["c", "d"])
        self.assertEqual(sheet.facts(), FACTS)
        self.assertEqual(sheet.outcomes("s"), ["bad", "ok"])

    def test_the_empty_sheet(self):
        for sheet in [Sheet([], [], []), Sheet((), (), (), []), Sheet((), [], (), ())]:
            told = [sheet.cells(), sheet.names(), sheet.asks(), sheet.steps(), sheet.facts()]
            self.assertEqual(told, [[], [], [], [], []])
            self.assertTrue(sheet == Sheet([], [], []))

    def test_one_name_may_be_a_cell_an_ask_and_a_step(self):
        sheet = Sheet(["a"], [("a", ["a"])], [("a", ["a"], ["a"])], [("after", "a", "a", "a", False)])
        self.assertEqual([sheet.looks("a"), sheet.puts("a"), sheet.leaves("a")], [["a"], ["a"], []])

    def test_leaves(self):
        asks = [("q", ["d"]), ("p", ["c"]), ("r", []), ("o", ["c", "d"])]
        sheet = Sheet(["c", "d", "e"], asks, [("s", ["c"], ["a"]), ("t", ["d", "c"], ["a"]), ("u", ["e"], ["a"])])
        self.assertEqual(sheet.leaves("s"), ["q", "r"])
        self.assertEqual(sheet.leaves("t"), ["r"])
        self.assertEqual(sheet.leaves("u"), ["o", "p", "q", "r"])

    def test_what_is_returned_is_new(self):
        before = [self.sheet.cells(), self.sheet.names(), self.sheet.asks(), self.sheet.steps(), self.sheet.facts()]
        for told in [self.sheet.cells(), self.sheet.names(), self.sheet.asks(), self.sheet.steps(),
                     self.sheet.facts(), self.sheet.looks("p"), self.sheet.puts("s"), self.sheet.outcomes("s"),
                     self.sheet.leaves("t")]:
            told.append("x")
        after = [self.sheet.cells(), self.sheet.names(), self.sheet.asks(), self.sheet.steps(), self.sheet.facts()]
        self.assertEqual(before, after)
        self.assertEqual([self.sheet.looks("p"), self.sheet.puts("s")], [["c"], ["c"]])
        self.assertEqual([self.sheet.outcomes("s"), self.sheet.leaves("t")], [["bad", "ok"], ["p", "q"]])

    def test_what_is_passed_is_copied_and_stays(self):
        cells, seen, put, ends = ["d", "c"], ["c"], ["d", "c"], ["ok", "bad"]
        asks, steps, facts = [("q", ["d"]), ("p", seen)], [("t", [], ["ok"]), ("s", put, ends)], list(FACTS[::-1])
        sheet = Sheet(cells, asks, steps, facts)
        self.assertEqual([cells, seen, put, ends, facts], [["d", "c"], ["c"], ["d", "c"], ["ok", "bad"], FACTS[::-1]])
        self.assertEqual([asks[0][0], steps[0][0]], ["q", "t"])
        for given in (cells, seen, put, ends, asks, steps, facts):
            given.clear()
        self.assertEqual(sheet.cells(), ["c", "d"])
        self.assertEqual([sheet.looks("p"), sheet.puts("s"), sheet.outcomes("s")], [["c"], ["c", "d"], ["bad", "ok"]])
        self.assertEqual(sheet.facts(), FACTS)


class WrongThings(unittest.TestCase):
    def test_each_place(self):
        good = [CELLS, ASKS, STEPS, FACTS]
        everywhere = [None, True, 0, "", "cd", {}, {"c": "d"}, [None], [["c"]], (0,), ["c", 1], [()], [("p",)],
                      samples.Oddity(), [[]], [{}], [True], [[("c",)]]]
        nowhere = {
            0: [[("p", ["c"])], ["C"], ["c", ""], [("c",)], [["c"]]],
            1: [[("p", "c")], [["p", ["c"]]], [("P", ["c"])], [("p", ["c"], ["ok"])], [("p", {"c": 0})],
                [("p", ["c"]), "q"], [("p", [["c"]])], [("p", ["C"])], ["p"], {"p": ["c"]}],
            2: [[("s", ["c"], [])], [("s", ["c"], ())], [("s", ["c"], "ok")], [("s", "c", ["ok"])], [("s", ["c"])],
                [["s", ["c"], ["ok"]]], [("S", ["c"], ["ok"])], [("s", ["c"], ["ok"], [])], [("s", ["c"], {"ok": 0})],
                [("s", ["C"], ["ok"])], [("s", ["c"], ["Ok"])], ["s"], {"s": ["c"]}],
            3: [[("never", ())], [("never", (("p", 1),))], [("after", "s", "bad", "p", 0)], [list(FACTS[0])],
                FACTS[0], [FACTS], ["never"], {FACTS[0]: True}, [("never", (("q", True), ("p", True)))]],
        }
        for place in range(4):
            for thing in everywhere + nowhere[place]:
                told = list(good)
                told[place] = thing
                with self.subTest(place=place, thing=repr(thing)):
                    self.assertEqual(raised(Sheet, *told), (Wrong, {"place": place}))

    def test_twisted_arguments_are_wrong_at_their_place_or_right(self):
        good = [CELLS, ASKS, STEPS, FACTS]
        for place, given in enumerate(good):
            for thing in samples.twisted(given):
                told = list(good)
                told[place] = thing
                kind, fields = raised(Sheet, *told)
                with self.subTest(place=place, thing=repr(thing)):
                    if kind is Wrong:
                        self.assertEqual(fields, {"place": place})
                    else:
                        self.assertIn(kind, ["returned", Twice, NoCell, NoStep, NoOutcome, NoAsk])

    def test_names_that_are_none(self):
        for name in ["", "A", "abcdefghi", "a b", "a\n", None, 0, True, ("a",)]:
            self.assertEqual(raised(Sheet, [name], [], []), (Wrong, {"place": 0}))
            self.assertEqual(raised(Sheet, ["c"], [(name, ["c"])], []), (Wrong, {"place": 1}))
            self.assertEqual(raised(Sheet, ["c"], [("p", [name])], []), (Wrong, {"place": 1}))
            self.assertEqual(raised(Sheet, ["c"], [], [(name, ["c"], ["o"])]), (Wrong, {"place": 2}))
            self.assertEqual(raised(Sheet, ["c"], [], [("s", [name], ["o"])]), (Wrong, {"place": 2}))
            self.assertEqual(raised(Sheet, ["c"], [], [("s", ["c"], ["o", name])]), (Wrong, {"place": 2}))

    def test_a_step_without_outcomes(self):
        for ends in ([], ()):
            self.assertEqual(raised(Sheet, ["c"], [], [("s", ["c"], ends)]), (Wrong, {"place": 2}))

    def test_wrong_comes_first_and_the_first_place_counts(self):
        self.assertEqual(raised(Sheet, None, None, None, None), (Wrong, {"place": 0}))
        self.assertEqual(raised(Sheet, [], None, None, None), (Wrong, {"place": 1}))
        self.assertEqual(raised(Sheet, [], [], None, None), (Wrong, {"place": 2}))
        self.assertEqual(raised(Sheet, [], [], [], None), (Wrong, {"place": 3}))
        twice = [("p", []), ("p", ["x"])]
        self.assertEqual(raised(Sheet, [], twice, [("s", [], [])]), (Wrong, {"place": 2}))
        self.assertEqual(raised(Sheet, [], twice, [], [("never", ())]), (Wrong, {"place": 3}))

    def test_twice(self):
        asks = [("q", []), ("p", []), ("o", []), ("p", []), ("q", [])]
        self.assertEqual(raised(Sheet, [], asks, []), (Twice, {"name": "p"}))
        steps = [("t", [], ["o"]), ("s", [], ["o"]), ("t", [], ["o"]), ("s", [], ["o"])]
        self.assertEqual(raised(Sheet, [], [], steps), (Twice, {"name": "t"}))
        self.assertEqual(raised(Sheet, [], [("z", []), ("z", [])], steps), (Twice, {"name": "z"}))
        self.assertEqual(raised(Sheet, [], [("z", ["x"]), ("z", [])], steps), (Twice, {"name": "z"}))
        self.assertEqual(raised(Sheet, [], [("p", ["x"])], steps), (Twice, {"name": "t"}))

    def test_no_cell(self):
        asks = [("q", ["c", "z", "x"]), ("p", ["a"])]
        steps = [("t", ["y"], ["o"]), ("s", ["b"], ["o"])]
        self.assertEqual(raised(Sheet, ["c"], asks, steps), (NoCell, {"name": "z"}))
        self.assertEqual(raised(Sheet, ["c", "z", "x"], asks, steps), (NoCell, {"name": "a"}))
        self.assertEqual(raised(Sheet, ["c", "z", "x", "a"], asks, steps), (NoCell, {"name": "y"}))
        self.assertEqual(raised(Sheet, ["c", "z", "x", "a", "y"], asks, steps), (NoCell, {"name": "b"}))
        facts = [("after", "n", "n", "n", True)]
        self.assertEqual(raised(Sheet, [], [], [("s", ["b"], ["o"])], facts), (NoCell, {"name": "b"}))

    def test_facts_that_name_what_is_not_there(self):
        cases = [
            ([("after", "x", "y", "z", True)], (NoStep, {"name": "x"})),
            ([("after", "s", "y", "z", True)], (NoOutcome, {"outcome": "y"})),
            ([("after", "t", "bad", "z", True)], (NoOutcome, {"outcome": "bad"})),
            ([("after", "s", "bad", "z", True)], (NoAsk, {"name": "z"})),
            ([("after", "s", "bad", "s", True)], (NoAsk, {"name": "s"})),
            ([("never", (("a", True), ("p", True), ("z", True)))], (NoAsk, {"name": "a"})),
            ([("never", (("p", True), ("y", True), ("z", True)))], (NoAsk, {"name": "y"})),
            ([("never", (("z", True),)), ("after", "x", "y", "z", True)], (NoAsk, {"name": "z"})),
            ([("after", "x", "y", "z", True), ("never", (("a", True),))], (NoStep, {"name": "x"})),
            (FACTS + [("never", (("z", True),)), ("after", "x", "y", "z", True)], (NoAsk, {"name": "z"})),
            ([("after", "s", "y", "z", True), ("after", "x", "y", "z", True)], (NoOutcome, {"outcome": "y"})),
        ]
        for facts, told in cases:
            with self.subTest(facts=facts):
                self.assertEqual(raised(Sheet, CELLS, ASKS, STEPS, facts), told)
                self.assertEqual(raised(Sheet, CELLS, ASKS, STEPS, tuple(facts)), told)

    def test_names_that_are_not_there(self):
        sheet = Sheet(CELLS, ASKS, STEPS, FACTS)
        for thing in samples.ODDITIES + ["s", "c", "z", ("p",), ["p"]]:
            kind, fields = raised(sheet.looks, thing)
            self.assertIs(kind, NoAsk)
            self.assertIs(fields["name"], thing)
        for thing in samples.ODDITIES + ["p", "c", "bad", ("s",), ["s"]]:
            for ask in (sheet.puts, sheet.outcomes, sheet.leaves):
                kind, fields = raised(ask, thing)
                self.assertIs(kind, NoStep)
                self.assertIs(fields["name"], thing)


class Changed(unittest.TestCase):
    def setUp(self):
        self.sheet = Sheet(CELLS, ASKS, STEPS, FACTS)

    def test_with_fact(self):
        fact = ("after", "t", "ok", "q", False)
        more = self.sheet.with_fact(fact)
        self.assertEqual(more.facts(), [FACTS[0], fact, FACTS[1]])
        self.assertEqual(self.sheet.facts(), FACTS)
        self.assertTrue(self.sheet.with_fact(FACTS[1]) == self.sheet)
        self.assertEqual([more.cells(), more.asks(), more.steps()],
                         [self.sheet.cells(), self.sheet.asks(), self.sheet.steps()])

    def test_with_fact_raises(self):
        for thing in samples.ODDITIES + samples.twisted(FACTS[0])[:3] + [("never", (("p", 1), ("q", 0)))]:
            self.assertEqual(raised(self.sheet.with_fact, thing), (Wrong, {"place": 0}))
        told = [(("after", "x", "y", "z", True), (NoStep, {"name": "x"})),
                (("after", "t", "y", "z", True), (NoOutcome, {"outcome": "y"})),
                (("after", "t", "ok", "z", True), (NoAsk, {"name": "z"})),
                (("never", (("a", True), ("z", True))), (NoAsk, {"name": "a"}))]
        for fact, error in told:
            self.assertEqual(raised(self.sheet.with_fact, fact), error)

    def test_without_fact(self):
        less = self.sheet.without_fact(("never", (("p", True), ("q", False))))
        self.assertEqual(less.facts(), FACTS[:1])
        self.assertEqual(less.without_fact(FACTS[0]).facts(), [])
        self.assertEqual(self.sheet.facts(), FACTS)
        self.assertEqual([less.cells(), less.asks(), less.steps()],
                         [self.sheet.cells(), self.sheet.asks(), self.sheet.steps()])

    def test_without_fact_raises(self):
        others = [("never", (("p", 1), ("q", 0))), ("after", "s", "bad", "p", 1), ("after", "s", "bad", "p", False),
                  ("never", (("p", True),)), list(FACTS[0]), ("after", "x", "y", "z", True), FACTS]
        for thing in samples.ODDITIES + others:
            kind, fields = raised(self.sheet.without_fact, thing)
            self.assertIs(kind, NoFact)
            self.assertIs(fields["fact"], thing)

    def test_renamed_cells(self):
        other = self.sheet.renamed("cell", {"c": "z", "p": "y", "s": "y", "bad": "y", "ok": "x"})
        self.assertEqual([other.cells(), other.asks(), other.steps(), other.facts()],
                         [["d", "z"], [("p", ("z",)), ("q", ("d",))],
                          [("s", ("z",), ("bad", "ok")), ("t", (), ("ok",))], FACTS])

    def test_renamed_asks(self):
        other = self.sheet.renamed("ask", {"p": "z", "c": "y", "s": "y", "bad": "y", "ok": "x"})
        facts = [("after", "s", "bad", "z", True), ("never", (("q", False), ("z", True)))]
        self.assertEqual([other.names(), other.asks(), other.facts()],
                         [["q", "z"], [("q", ("d",)), ("z", ("c",))], facts])
        self.assertEqual([other.cells(), other.steps()], [self.sheet.cells(), self.sheet.steps()])

    def test_renamed_steps(self):
        other = self.sheet.renamed("step", {"s": "z", "ok": "y", "p": "y", "bad": "x", "c": "y"})
        self.assertEqual(other.steps(), [("t", (), ("ok",)), ("z", ("c",), ("bad", "ok"))])
        self.assertEqual(other.facts(), [("after", "z", "bad", "p", True), FACTS[1]])
        self.assertEqual([other.cells(), other.asks()], [self.sheet.cells(), self.sheet.asks()])

    def test_renamed_outcomes_of_all_steps(self):
        other = self.sheet.renamed("outcome", {"ok": "a", "bad": "z", "s": "y", "p": "y", "c": "y"})
        self.assertEqual(other.steps(), [("s", ("c",), ("a", "z")), ("t", (), ("a",))])
        self.assertEqual(other.facts(), [("after", "s", "z", "p", True), FACTS[1]])

    def test_names_are_exchanged_at_once(self):
        self.assertEqual(self.sheet.renamed("ask", {"p": "q", "q": "p"}).asks(), [("p", ("d",)), ("q", ("c",))])
        self.assertEqual(self.sheet.renamed("cell", {"c": "d", "d": "c"}).asks(), [("p", ("d",)), ("q", ("c",))])
        self.assertEqual(self.sheet.renamed("step", {"s": "t", "t": "s"}).steps(),
                         [("s", (), ("ok",)), ("t", ("c",), ("bad", "ok"))])
        other = self.sheet.renamed("outcome", {"bad": "ok", "ok": "bad"})
        self.assertEqual([other.steps()[1], other.facts()[0]], [("t", (), ("bad",)), ("after", "s", "ok", "p", True)])

    def test_renaming_nothing_and_what_is_not_there(self):
        for kind in ("cell", "ask", "step", "outcome"):
            names = {"z": "y"}
            self.assertTrue(self.sheet.renamed(kind, {}) == self.sheet)
            self.assertTrue(self.sheet.renamed(kind, names) == self.sheet)
            self.assertEqual(names, {"z": "y"})

    def test_renaming_keeps_the_sheet(self):
        self.sheet.renamed("ask", {"p": "z"})
        self.assertEqual(self.sheet.names(), ["p", "q"])


class Equal(unittest.TestCase):
    def test_equal_sheets(self):
        one = Sheet(CELLS, ASKS, STEPS, FACTS)
        other = Sheet(CELLS[::-1], tuple(ASKS[::-1]), STEPS[::-1], FACTS[::-1])
        self.assertIs(one == other, True)
        self.assertIs(one != other, False)
        self.assertIs(Sheet(CELLS, ASKS, STEPS) == Sheet(CELLS, ASKS, STEPS, []), True)

    def test_unlike_sheets(self):
        one = Sheet(CELLS, ASKS, STEPS, FACTS)
        others = [Sheet(CELLS + ["e"], ASKS, STEPS, FACTS), Sheet(CELLS, ASKS + [("r", [])], STEPS, FACTS),
                  Sheet(CELLS, [("q", ["c"]), ("p", ["c"])], STEPS, FACTS),
                  Sheet(CELLS, ASKS, STEPS + [("x", [], ["ok"])], FACTS),
                  Sheet(CELLS, ASKS, [("s", ["d"], ["ok", "bad"]), ("t", [], ["ok"])], FACTS),
                  Sheet(CELLS, ASKS, [("s", ["c"], ["ok", "bad"]), ("t", [], ["no"])], FACTS),
                  Sheet(CELLS, ASKS, STEPS, FACTS[:1]), Sheet(CELLS, ASKS, STEPS)]
        for other in others:
            self.assertIs(one == other, False)
            self.assertIs(other == one, False)
            self.assertIs(one != other, True)

    def test_nothing_else_is_equal(self):
        one = Sheet([], [], [])
        for thing in samples.ODDITIES + [Sheet, [one]]:
            self.assertIs(one == thing, False)
            self.assertIs(one != thing, True)


if __name__ == "__main__":
    unittest.main()
