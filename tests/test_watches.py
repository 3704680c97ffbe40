"""Watches: whether logs tell runs, or beginnings, and the sides that show it."""

import unittest

import oracle
import samples
import watching
from checks import forms
from fourfaces.laying import machine_of
from fourfaces.machines import Machine
from fourfaces.programs import Program
from fourfaces.runs import is_beginning, is_run, next_nodes, nodes
from fourfaces.sheets import Sheet
from fourfaces.watches import are_sides, sides, silent_round, tells_beginnings, tells_runs, two_beginnings, two_runs

BARE = Sheet([], [("p", [])], [])
SHEET = Sheet(["c"], [("p", ["c"])], [("s", ["c"], ["bad", "ok"])])
NO, YES = (False,), (True,)
END = ("out", ("end",))
FORK = machine_of(Program(BARE, (("if", "p", (("mark", "a"),), (("mark", "b"),)), ("mark", "c"))))
WATCHES = [(), ("u",), ("w",), ("u", "v"), ("u", "v", "w"), ("a", "z")]


def machines(many, sizes=(2, 4, 7), forward=False, asks=2):
    for seed in range(many):
        luck = samples.dice(seed)
        sheet = samples.random_sheet(luck, asks, 2)
        if forward or seed % 3:
            machine = samples.lively_machine(luck, sheet, luck.choice(sizes), forward)
        else:
            machine = samples.random_machine(luck, sheet, luck.choice(sizes))
        yield luck, oracle.Ground(sheet), machine


def plain_sides(machine, watch):
    def writes(node):
        row = machine.points()[node[0]]
        return row[1] if row[0] == "mark" and row[1] in watch else None

    return watching.closed_sides(nodes(machine), lambda node: next_nodes(machine, node), writes)


class Checks(unittest.TestCase):
    def check_two(self, machine, watch, told, together, is_one):
        """Two unlike lists with the same log."""
        self.assertIsInstance(told, tuple)
        one, other = told
        for points in told:
            self.assertIs(is_one(machine, points), True)
        self.assertLess(one, other)
        self.assertEqual(together(one), together(other))
        self.assertEqual(watching.log(machine, watch, one), watching.log(machine, watch, other))

    def check_all(self, machine, watch):
        """What is returned for a machine and a watch fits together; returns what is told."""
        runs_told, beginnings_told = tells_runs(machine, watch), tells_beginnings(machine, watch)
        some = sides(machine, watch)
        self.assertEqual(forms(some), forms(plain_sides(machine, watch)))
        self.assertIs(are_sides(machine, watch, some), True)
        self.assertIs(are_sides(machine, watch, some[::-1]), True)
        points = machine.points()
        outs = [side for side in some if points[side[0][0]][0] == "out" and points[side[1][0]][0] == "out"]
        self.assertIs(runs_told, not outs)
        silent = silent_round(machine, watch)
        self.assertIs(beginnings_told, silent is None and all(one[0] != other[0] for one, other in some))
        if silent is not None:
            self.check_silent(machine, watch, silent)
        two = two_runs(machine, watch)
        self.assertIs(two is None, runs_told)
        if two is not None:
            self.check_two(machine, watch, two, lambda points: None, is_run)
        two = two_beginnings(machine, watch)
        self.assertIs(two is None, beginnings_told)
        if two is not None:
            self.check_two(machine, watch, two, lambda points: points[-1], is_beginning)
        return runs_told, beginnings_told

    def check_silent(self, machine, watch, silent):
        self.assertIs(is_beginning(machine, silent), True)
        lots = []
        for at in range(len(silent) - 1):
            if silent[at] == silent[-1]:
                lots.append([machine.points()[point] for point in silent[at:-1]])
        self.assertTrue(any(not [row for row in rows if row[0] == "mark" and row[1] in watch] for rows in lots))

    def test_the_example(self):
        self.assertIs(tells_runs(FORK, ("c",)), False)
        self.assertEqual(forms(two_runs(FORK, ("c",))), forms(([0, 1, 3, 4], [0, 2, 3, 4])))
        self.assertEqual([tells_runs(FORK, ("a",)), tells_beginnings(FORK, ("a",)), len(sides(FORK, ("a",)))], [True, True, 3])
        one, two, three = (1, (YES,)), (2, (NO,)), (3, (NO,))
        # the one of the points 1 and 2 writes, the other one goes on
        self.assertEqual(forms(sides(FORK, ("a",))), forms([(one, two), (one, three), (one, (4, (NO,)))]))
        for watch in [(), ("a",), ("b",), ("c",), ("a", "b"), ("a", "b", "c"), ("x",)]:
            self.check_all(FORK, watch)

    def test_no_words_and_words_that_no_mark_has(self):
        for watch in ((), ("x", "y"), ("z",)):
            self.assertIs(tells_runs(FORK, watch), False)
            self.assertIs(tells_beginnings(FORK, watch), False)
            self.assertEqual(sides(FORK, watch), sides(FORK, ()))
        straight = Machine(BARE, [("mark", "a", 1), END])
        for watch in ((), ("a",), ("x",)):
            self.assertEqual(self.check_all(straight, watch), (True, True))
            self.assertEqual(sides(straight, watch), [])
            self.assertIs(are_sides(straight, watch, []), True)

    def test_machines_of_one_point(self):
        self.assertEqual(self.check_all(Machine(SHEET, [END]), ()), (True, True))
        self.assertIsNone(silent_round(Machine(SHEET, [END]), ()))
        for point in (("round",), ("ask", "p", 0, 0), ("do", "s", (("bad", 0), ("ok", 0))), ("mark", "a", 0)):
            machine = Machine(SHEET, [point])
            self.assertEqual(self.check_all(machine, ()), (True, False))
            self.assertEqual(silent_round(machine, ()), [0, 0])
            self.assertEqual(two_beginnings(machine, ()), ([0], [0, 0]))
        self.assertEqual(self.check_all(Machine(SHEET, [("mark", "a", 0)]), ("a",)), (True, True))

    def test_what_is_written_later_may_tell_what_was(self):
        points = [("ask", "p", 1, 2), ("mark", "u", 3), ("mark", "v", 3), ("ask", "p", 4, 5), ("mark", "a", 6), ("mark", "b", 6), END]
        self.assertEqual(self.check_all(Machine(BARE, points), ("a", "b")), (True, False))

    def test_beginnings_may_be_told_where_runs_are_not(self):
        # both branches end by exits of their own, without a word
        machine = Machine(BARE, [("ask", "p", 1, 2), END, ("out", ("stop", "w"))])
        self.assertEqual(self.check_all(machine, ()), (False, True))
        self.assertEqual(two_runs(machine, ()), ([0, 1], [0, 2]))

    def test_a_round_that_writes(self):
        points = [("do", "s", (("bad", 1), ("ok", 2))), ("mark", "a", 0), END]
        machine = Machine(SHEET, points)
        self.assertEqual(self.check_all(machine, ("a",)), (True, True))
        self.assertEqual(self.check_all(machine, ()), (False, False))
        self.assertEqual(silent_round(machine, ()), [0, 1, 0])
        self.assertIsNone(silent_round(machine, ("a",)))

    def test_a_round_from_which_no_run_leads(self):
        machine = Machine(SHEET, [("do", "s", (("bad", 1), ("ok", 2))), ("mark", "a", 1), END])
        self.assertEqual(self.check_all(machine, ()), (True, False))
        self.assertEqual(self.check_all(machine, ("a",)), (True, True))

    def test_a_round_with_less_known_at_its_end(self):
        # the second time the ask is answered like the first one, so the round is gone just once
        points = [("mark", "a", 1), ("mark", "b", 2), ("ask", "p", 3, 4), ("mark", "c", 1), END]
        machine = Machine(BARE, points)
        self.check_all(machine, ())
        self.check_all(machine, ("a",))
        for watch in (("a", "c"), ("b",), ("c",)):
            self.assertEqual(self.check_all(machine, watch)[1], True)

    def test_a_point_that_is_passed_earlier_with_a_word(self):
        # the point 1 comes with a word ahead, then silently
        points = [("mark", "a", 1), ("do", "s", (("bad", 0), ("ok", 2))), ("ask", "p", 1, 3), END]
        machine = Machine(SHEET, points)
        for watch in ((), ("a",)):
            self.assertEqual(self.check_all(machine, watch)[1], False)

    def test_compared_with_all_runs(self):
        seen = set()
        for luck, ground, machine in machines(160, (3, 5, 8), True):
            most = len(machine) + 1
            runs = watching.runs(ground, machine, most)
            beginnings = [list(points) for points in watching.beginnings(ground, machine, most)]
            for watch in WATCHES:
                told = (watching.tells(machine, watch, runs, lambda points: 0),
                        watching.tells(machine, watch, beginnings, lambda points: points[-1]))
                if any(row[0] == "round" for row in machine.points()):
                    told = (told[0], self.check_all(machine, watch)[1])
                self.assertEqual(self.check_all(machine, watch), told)
                seen.add(told)
        self.assertGreater(len(seen), 2)

    def test_compared_with_some_runs(self):
        seen = set()
        for luck, ground, machine in machines(200, (2, 4, 6)):
            beginnings = [list(points) for points in watching.beginnings(ground, machine, 7)]
            runs = [points for points in beginnings if watching.is_run(machine, points)]
            for watch in WATCHES[luck.randrange(2)::2]:
                told = self.check_all(machine, watch)
                if told[0]:
                    self.assertIs(watching.tells(machine, watch, runs, lambda points: 0), True)
                if told[1]:
                    self.assertIs(watching.tells(machine, watch, beginnings, lambda points: points[-1]), True)
                seen.add(told)
        self.assertGreater(len(seen), 2)

    def test_more_words_tell_no_less(self):
        for luck, ground, machine in machines(60):
            for one in WATCHES:
                for other in WATCHES:
                    if set(one) <= set(other):
                        self.assertLessEqual(tells_runs(machine, one), tells_runs(machine, other))
                        self.assertLessEqual(tells_beginnings(machine, one), tells_beginnings(machine, other))


class Sides(unittest.TestCase):
    def test_what_are_no_sides(self):
        some = sides(FORK, ("a",))
        (one, two), (_, three), (_, four) = some
        wrong = [some[:-1], some[1:], some[:1] + some[2:], some + some[:1], tuple(some), some + [(two, one)], [],
                 some[1:] + [(two, one)], some[1:] + [[one, two]], some + [None], some + [(one, (9, (NO,)))],
                 some + [(one, (2, (NO, YES)))], some + [(one,)], some[1:] + [((1, ((1,),)), two)], some[1:] + [(one, (2, ((0,),)))],
                 some[1:] + [((True, (YES,)), two)], some[1:] + [((1, [YES]), two)], some[1:] + [(one, two, two)],
                 some[1:] + [((1, ()), two)], some + [(one, (4, (NO, YES)))], dict.fromkeys(some), {0: some}]
        for thing in wrong + samples.ODDITIES:
            self.assertIs(are_sides(FORK, ("a",), thing), False)
        # more sides are closed, too, if what comes behind them is there
        self.assertIs(are_sides(FORK, ("a",), some + [((4, (NO,)), (4, (YES,)))]), True)
        self.assertIs(are_sides(FORK, ("a",), some + [((4, (NO,)), (4, (NO,)))]), True)
        self.assertIs(are_sides(FORK, ("a",), some + [((3, (NO,)), (4, (NO,)))]), False)
        self.assertIs(are_sides(FORK, ("a",), some + [((3, (NO,)), (4, (NO,))), ((4, (NO,)), (4, (NO,)))]), True)
        self.assertIs(are_sides(FORK, (), some), False)

    def test_answers_of_a_lot_are_truths(self):
        machine = Machine(SHEET, [("do", "s", (("bad", 1), ("ok", 2))), ("mark", "a", 3), ("mark", "b", 3), END])
        some = sides(machine, ("a", "b"))
        both = (NO, YES)
        self.assertEqual(some, [((1, both), (2, both))])
        for lot in (((0,), YES), (NO, (1,)), ((0,), (1,)), [NO, YES], (NO, [True]), (YES, NO), (NO, NO, YES), (NO,), (NO, YES, (None,))):
            self.assertIs(are_sides(machine, ("a", "b"), [((1, lot), (2, both))]), False)
            self.assertIs(are_sides(machine, ("a", "b"), [((1, both), (2, lot))]), False)

    def test_an_ask_or_a_step_is_no_word(self):
        points = [("ask", "p", 1, 2), ("do", "s", (("bad", 3), ("ok", 3))), ("mark", "a", 1), END]
        machine = Machine(SHEET, points)
        for ask in (tells_runs, tells_beginnings):
            self.assertEqual([ask(machine, ("p",)), ask(machine, ("s",)), ask(machine, ("a",))], [False, False, True])
        self.assertEqual(sides(machine, ("p", "s")), sides(machine, ()))

    def test_words_that_are_unlike(self):
        some = sides(FORK, ("a", "b"))
        self.assertEqual(some, [((1, (YES,)), (2, (NO,)))])
        same = machine_of(Program(BARE, (("if", "p", (("mark", "a"), ("mark", "b")), (("mark", "a"),)), ("mark", "c"))))
        self.assertEqual(same.points()[1:3], [("mark", "a", 3), ("mark", "a", 4)])
        self.assertEqual([(one[0], other[0]) for one, other in sides(same, ("a",))], [(1, 2), (3, 4), (3, 5), (4, 4), (4, 5), (4, 5), (5, 5)])

    def test_twisted_sides(self):
        for watch in (("a",), ("a", "b")):
            some = sides(FORK, watch)
            for thing in samples.twisted(some):
                right = isinstance(thing, list) and forms(sorted(map(forms_of, thing))) == forms(sorted(map(forms_of, some)))
                if right:
                    self.assertIs(are_sides(FORK, watch, thing), True)
                elif are_sides(FORK, watch, thing):
                    self.assertLess(set(some), set(thing))

    def test_what_is_told_is_new(self):
        sides(FORK, ("a",)).clear()
        two_runs(FORK, ("c",))[0].clear()
        two_beginnings(FORK, ("c",))[1].clear()
        machine = Machine(SHEET, [("round",)])
        silent_round(machine, ()).clear()
        self.assertEqual([len(sides(FORK, ("a",))), two_runs(FORK, ("c",))[0], silent_round(machine, ())], [3, [0, 1, 3, 4], [0, 0]])
        self.assertEqual(two_beginnings(machine, ()), ([0], [0, 0]))


def forms_of(thing):
    return repr(forms(thing))


if __name__ == "__main__":
    unittest.main()
