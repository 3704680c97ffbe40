"""Moves: yards of versions, their stands, whether they are safe, and what shows that they are not."""

import unittest
from itertools import product

import oracle
import samples
from checks import forms, raised
from fourfaces.errors import Unlike, Wrong
from fourfaces.laying import machine_of
from fourfaces.machines import Machine
from fourfaces.moves import Yard
from fourfaces.programs import Program
from fourfaces.sheets import Sheet

BARE = Sheet([], [("p", [])], [])
SHEET = Sheet(["c"], [("p", ["c"])], [("s", ["c"], ["bad", "ok"]), ("t", [], ["ok"])])
END = ("out", ("end",))
FORK = machine_of(Program(BARE, (("if", "p", (("mark", "a"),), (("mark", "b"),)), ("mark", "c"))))
OTHER = Machine(BARE, [END])
# the step again and again as long as it ends by bad; beside it the same with a mark, and one that does it once
TRYING = Machine(SHEET, [("do", "s", (("bad", 0), ("ok", 1))), END])
MARKED = Machine(SHEET, [("mark", "u", 1), ("do", "s", (("bad", 0), ("ok", 2))), END])
ONCE = Machine(SHEET, [("do", "s", (("bad", 1), ("ok", 1))), END])


def after(ground, machines, moves, stand):
    """The stands that come behind one, as the document tells."""
    version, point, true, answers = stand
    row, found = machines[version].points()[point], set()
    if row[0] == "mark":
        found.add((version, row[2], true, answers))
    if row[0] == "ask":
        found.add((version, row[2] if oracle.answer(ground.sheet, answers, row[1]) else row[3], true, answers))
    if row[0] == "do":
        told = oracle.move(machines[0], true, answers)
        if told[:2] == ("do", row[1]):
            goals = dict(machines[0].points()[told[2]][2])
            for outcome, goal in row[2]:
                found |= {(version, goal, goals[outcome], later) for later in ground.behind[answers, row[1], outcome]}
    found |= {(move[2], move[3], true, answers) for move in moves if move[:2] == (version, point)}
    return found


def is_right(machines, stand):
    version, point, true, answers = stand
    return oracle.move(machines[version], point, answers)[:2] == oracle.move(machines[0], true, answers)[:2]


def levels(ground, machines, moves):
    """How many stands stand ahead of each one that comes, right ones alone being gone on from, and all that come."""
    found = {(0, 0, 0, answers): 0 for answers in ground.can}
    queue = list(found)
    for stand in queue:
        if is_right(machines, stand):
            for later in after(ground, machines, moves, stand):
                if later not in found:
                    found[later] = found[stand] + 1
                    queue.append(later)
    come = {(0, 0, 0, answers) for answers in ground.can}
    queue = list(come)
    for stand in queue:
        fresh = after(ground, machines, moves, stand) - come
        come |= fresh
        queue.extend(fresh)
    return found, come


def is_lapse(machines, moves, lapse):
    ground = oracle.Ground(machines[0].sheet)
    right = lapse[0][:3] == (0, 0, 0) and not is_right(machines, lapse[-1])
    right = right and all(is_right(machines, stand) for stand in lapse[:-1])
    return right and all(b in after(ground, machines, moves, a) for a, b in zip(lapse, lapse[1:]))


def all_stands(ground, machines):
    """All stands of a yard, with the classes of all their parts."""
    spots = [(version, point) for version in range(len(machines)) for point in range(len(machines[version]))]
    return [forms(spot + (true, answers)) for spot in spots for true in range(len(machines[0])) for answers in ground.can]


def random_yard(luck, sheet):
    """Machines, some of which show the same as the first one at many points, and moves of all kinds."""
    machine = samples.lively_machine(luck, sheet, luck.choice([2, 4, 6]), luck.random() < 0.4)
    machines = [machine]
    for _ in range(luck.choice([0, 1, 1, 2])):
        if luck.random() < 0.5:
            machines.append(machine.from_point(luck.randrange(len(machine))))
        else:
            machines.append(samples.random_machine(luck, sheet, 4))
    ground, moves = oracle.Ground(sheet), []
    for _ in range(luck.choice([0, 1, 2, 4])):
        version, later = luck.randrange(len(machines)), luck.randrange(len(machines))
        goals = list(product(range(len(machines[version])), range(len(machines[later]))))
        alike = oracle.alike(ground, machines[version], machines[later])
        good = [(p, q) for p, q in goals if all((p, q, answers) in alike for answers in ground.can)]
        point, goal = luck.choice(good if good and luck.random() < 0.7 else goals)
        moves.append((version, point, later, goal))
    return machines, moves


class Yards(unittest.TestCase):
    def test_the_example(self):
        yard = Yard([FORK, OTHER], [(0, 3, 1, 0)])
        told = [yard.is_safe(), len(yard.stands()), yard.lapse(), yard.harmless(), yard.needless()]
        self.assertEqual(forms(told), forms([True, 10, None, [(0, 3, 1, 0)], []]))

    def test_what_is_told_is_new_and_in_order(self):
        moves = [(0, 3, 1, 0), (0, 1, 1, 0), (0, 3, 1, 0)]
        machines = [FORK, OTHER]
        yard = Yard(machines, moves)
        machines.clear()
        moves.clear()
        self.assertEqual(forms(yard.moves()), forms([(0, 1, 1, 0), (0, 3, 1, 0)]))
        self.assertTrue(yard.machines() == [FORK, OTHER])
        for told in (yard.machines, yard.moves, yard.stands, yard.needless, yard.harmless):
            told().append(None)
            told().reverse()
        self.assertEqual(yard.moves(), [(0, 1, 1, 0), (0, 3, 1, 0)])
        self.assertEqual([len(yard.machines()), len(yard.stands()), yard.needless()], [2, 10, []])
        many = [(0, point, 0, goal) for goal in range(5) for point in (4, 2, 0, 3, 1)]
        self.assertEqual(Yard([FORK], many).moves(), sorted(many))
        tuples = Yard((FORK, OTHER), ((0, 3, 1, 0),))
        self.assertEqual([tuples.moves(), len(tuples.machines())], [[(0, 3, 1, 0)], 2])
        self.assertIsInstance(tuples.machines(), list)

    def test_wrong_values(self):
        good = (0, 3, 1, 0)
        for thing in samples.ODDITIES + [[], (), [FORK, None], {FORK.points()[0]: 1}, FORK]:
            self.assertEqual(raised(Yard, thing, [good]), (Wrong, {"place": 0}), thing)
            self.assertEqual(raised(Yard, thing, None), (Wrong, {"place": 0}), thing)
        for thing in samples.ODDITIES:
            if thing not in ((), []):
                self.assertEqual(raised(Yard, [FORK, OTHER], thing), (Wrong, {"place": 1}), thing)
                self.assertEqual(raised(Yard, [FORK, OTHER], [good, thing]), (Wrong, {"place": 1}), thing)
        for move in [(0, 5, 1, 0), (0, 3, 1, 1), (2, 0, 0, 0), (0, 0, 2, 0), (-1, 0, 0, 0), (0, -1, 0, 0), (0, 3, 1), (0, 3, 1, 0, 0),
                     (False, 3, 1, 0), (0, 3, True, 0), (0, 3, 1, False), [0, 3, 1, 0], (0, 3, 1, None), (0, "3", 1, 0)]:
            self.assertEqual(raised(Yard, [FORK, OTHER], [move]), (Wrong, {"place": 1}), move)

    def test_unlike_sheets(self):
        self.assertEqual(raised(Yard, [FORK, TRYING], []), (Unlike, {}))
        self.assertEqual(raised(Yard, (TRYING, MARKED, FORK), [(0, 0, 1, 0)]), (Unlike, {}))
        self.assertEqual(raised(Yard, [FORK, TRYING], [(0, 9, 1, 0)]), (Wrong, {"place": 1}))
        same = Machine(Sheet([], [("p", ())], ()), [END])
        self.assertEqual(len(Yard([FORK, same], []).machines()), 2)

    def test_without_moves(self):
        yard = Yard([FORK], [])
        self.assertIs(yard.is_safe(), True)
        self.assertEqual(forms([yard.moves(), yard.needless(), yard.harmless(), yard.lapse()]), forms([[], [], [], None]))
        no, yes = (False,), (True,)
        # a frame stands at a point; version 0, left alone, goes on from 0, no step being done
        stands = [(0, 0, 0, no), (0, 0, 0, yes), (0, 1, 0, yes), (0, 2, 0, no)]
        stands += [(0, 3, 0, no), (0, 3, 0, yes), (0, 4, 0, no), (0, 4, 0, yes)]
        self.assertEqual(forms(yard.stands()), forms(stands))

    def test_moves_in_a_ring(self):
        yard = Yard([TRYING, MARKED], [(0, 0, 1, 0), (1, 0, 0, 0), (1, 1, 1, 0)])
        self.assertIs(yard.is_safe(), True)
        self.assertEqual([yard.harmless(), yard.needless()], [yard.moves(), []])
        self.assertIn((1, 0, 0, (True,)), yard.stands())
        self.assertIn((1, 2, 1, (True,)), yard.stands())
        alone = Yard([TRYING], [(0, 0, 0, 0)])
        self.assertEqual([alone.is_safe(), len(alone.stands())], [True, 4])

    def test_a_yard_that_is_not_safe(self):
        yard = Yard([TRYING, ONCE], [(0, 0, 1, 0), (1, 1, 0, 1)])
        self.assertEqual([yard.is_safe(), yard.stands(), yard.harmless()], [False, None, [(1, 1, 0, 1)]])
        lapse = yard.lapse()
        self.assertEqual([len(lapse), lapse[0][:3], lapse[1][:3], lapse[2][:3]], [3, (0, 0, 0), (1, 0, 0), (1, 1, 0)])
        self.assertIs(yard.is_lapse(lapse), True)
        # no frame comes to the point 1 of the second version but by the first move
        self.assertEqual(Yard([TRYING, ONCE], [(1, 1, 0, 1)]).needless(), [(1, 1, 0, 1)])
        self.assertEqual(yard.needless(), [])

    def test_moves_that_no_frame_can_make(self):
        sheet = Sheet(["c"], [("p", ["c"])], [("s", ["c"], ["bad", "ok"])], [("after", "s", "ok", "p", True)])
        machine = Machine(sheet, [("do", "s", (("bad", 1), ("ok", 2))), END, ("ask", "p", 1, 3), ("mark", "u", 1)])
        yard = Yard([machine], [(0, 3, 0, 0), (0, 2, 0, 2)])
        self.assertEqual([yard.needless(), yard.is_safe(), yard.harmless()], [[(0, 3, 0, 0)], True, [(0, 2, 0, 2), (0, 3, 0, 0)]])

    def test_behind_what_is_not_right_moves_can_be_made(self):
        # the first move is wrong, the second one is made behind it
        other = Machine(SHEET, [("do", "t", (("ok", 1),)), END])
        yard = Yard([TRYING, other], [(0, 0, 1, 0), (1, 0, 1, 1), (1, 1, 0, 0)])
        self.assertEqual([yard.is_safe(), yard.needless()], [False, []])
        # no turn leads on there, since version 0 does no such step
        yard = Yard([TRYING, other], [(0, 0, 1, 0), (1, 1, 0, 0)])
        self.assertEqual([yard.is_safe(), yard.needless()], [False, [(1, 1, 0, 0)]])

    def test_the_answers_at_the_begin_are_all_that_can_be(self):
        sheet = Sheet([], [("p", []), ("q", [])], [], [("never", (("p", True), ("q", True)))])
        yard = Yard([Machine(sheet, [END])], [])
        self.assertEqual([stand[3] for stand in yard.stands()], [(False, False), (False, True), (True, False)])
        self.assertIs(yard.are_stands(yard.stands() + [(0, 0, 0, (True, True))]), False)

    def test_random_yards(self):
        seen = set()
        for seed in range(250):
            luck = samples.dice(seed)
            sheet = samples.random_sheet(luck, 2, 2)
            machines, moves = random_yard(luck, sheet)
            yard, ground = Yard(machines, moves), oracle.Ground(sheet)
            found, come = levels(ground, machines, moves)
            wrong = [found[stand] for stand in found if not is_right(machines, stand)]
            self.assertIs(yard.is_safe(), not wrong)
            self.assertEqual(forms(yard.stands()), forms(None if wrong else sorted(found)))
            lapse = yard.lapse()
            self.assertEqual(lapse is None, not wrong)
            self.assertIs(yard.are_stands(sorted(come)), not wrong)
            if wrong:
                self.assertEqual(len(lapse), min(wrong) + 1)
                self.assertTrue(is_lapse(machines, moves, lapse))
                self.assertIs(yard.is_lapse(lapse), True)
            passed = {stand[:2] for stand in come}
            self.assertEqual(yard.needless(), sorted({move for move in moves if move[:2] not in passed}))
            harmless = [move for move in sorted(set(moves)) if Yard(machines, [move]).is_safe()]
            self.assertEqual(yard.harmless(), harmless)
            seen.add((bool(wrong), len(moves) > 0, bool(yard.needless()), bool(harmless)))
        self.assertGreaterEqual(len(seen), 6)


class AnyLists(unittest.TestCase):
    def test_closed_lists(self):
        yard = Yard([FORK, OTHER], [(0, 3, 1, 0)])
        stands = yard.stands()
        self.assertIs(yard.are_stands(stands), True)
        self.assertIs(yard.are_stands(stands[::-1]), True)
        self.assertIs(yard.are_stands(tuple(stands)), False)
        self.assertIs(yard.are_stands(stands + stands[:1]), False)
        for at in range(len(stands)):
            self.assertIs(yard.are_stands(stands[:at] + stands[at + 1:]), False)
        # a list with more than needed, if it is closed and all is right
        self.assertIs(yard.are_stands(stands + [(1, 0, 4, (True,))]), True)
        self.assertIs(yard.are_stands(stands + [(0, 1, 4, (False,))]), False)
        more = [(0, 1, 0, (False,))]
        self.assertIs(yard.are_stands(stands + more), True)
        for thing in samples.ODDITIES:
            self.assertIs(yard.are_stands(thing), False)
            self.assertIs(yard.are_stands(stands + [thing]), False)

    def test_twisted_lists(self):
        yard = Yard([TRYING, MARKED], [(0, 0, 1, 0), (1, 0, 0, 0)])
        stands = yard.stands()
        self.assertIs(yard.are_stands(stands), True)
        ground, many = oracle.Ground(SHEET), 0
        for thing in samples.twisted(stands):
            wanted = isinstance(thing, list) and self.are_stands(ground, [TRYING, MARKED], yard.moves(), thing)
            self.assertIs(yard.are_stands(thing), wanted, thing)
            many += wanted
        self.assertGreater(many, 0)

    def are_stands(self, ground, machines, moves, thing):
        if not all(forms(stand) in all_stands(ground, machines) for stand in thing):
            return False
        there = set(thing)
        right = len(there) == len(thing) and all((0, 0, 0, answers) in there for answers in ground.can)
        right = right and all(is_right(machines, stand) for stand in thing)
        return right and all(after(ground, machines, moves, stand) <= there for stand in thing)

    def test_lapses(self):
        yard = Yard([TRYING, ONCE], [(0, 0, 1, 0), (1, 1, 0, 1)])
        lapse = yard.lapse()
        no, yes = (False,), (True,)
        longer = [(0, 0, 0, no), (0, 0, 0, yes), (1, 0, 0, yes), (1, 1, 0, no)]
        self.assertIs(yard.is_lapse(longer), True)
        self.assertIs(yard.is_lapse(longer[1:]), True)
        self.assertIs(yard.is_lapse(longer[2:]), False)
        self.assertIs(yard.is_lapse(longer[:-1]), False)
        self.assertIs(yard.is_lapse(longer + [(0, 1, 0, no)]), False)
        self.assertIs(yard.is_lapse(longer[:1] + longer[2:]), False)
        self.assertIs(yard.is_lapse(tuple(lapse)), False)
        self.assertIs(yard.is_lapse([]), False)
        for thing in samples.ODDITIES:
            self.assertIs(yard.is_lapse(thing), False)
            self.assertIs(yard.is_lapse([thing]), False)
            self.assertIs(yard.is_lapse(lapse[:-1] + [thing] + lapse[-1:]), False)
        ground = oracle.Ground(SHEET)
        for thing in samples.twisted(longer):
            told = isinstance(thing, list) and all(forms(stand) in all_stands(ground, yard.machines()) for stand in thing)
            wanted = told and bool(thing) and is_lapse(yard.machines(), yard.moves(), thing)
            self.assertIs(yard.is_lapse(thing), wanted, thing)

    def test_a_safe_yard_has_no_lapse(self):
        yard = Yard([FORK, OTHER], [(0, 3, 1, 0)])
        for at in range(1, 4):
            self.assertIs(yard.is_lapse(yard.stands()[:at]), False)

    def test_a_truth_is_no_number(self):
        yard = Yard([FORK], [])
        stands = yard.stands()
        self.assertIs(yard.are_stands([(False,) + stands[0][1:]] + stands[1:]), False)
        self.assertIs(yard.are_stands([stands[0][:3] + ((0,),)] + stands[1:]), False)
        yard = Yard([TRYING, ONCE], [(0, 0, 1, 0)])
        lapse = yard.lapse()
        self.assertIs(yard.is_lapse([(False, 0, 0, lapse[0][3])] + lapse[1:]), False)
        self.assertIs(yard.is_lapse([(0, 0, 0, (int(lapse[0][3][0]),))] + lapse[1:]), False)


if __name__ == "__main__":
    unittest.main()
