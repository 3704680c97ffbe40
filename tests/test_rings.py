"""Rings: roads, rings, doors, crossings, and what all roads to a point have."""

import unittest
from itertools import permutations

import samples
from checks import forms
from fourfaces.laying import machine_of
from fourfaces.machines import Machine
from fourfaces.rings import crossing, door_road, doors, is_crossing, is_ring, is_road, leads_back, passed
from fourfaces.sheets import Sheet

SHEET = Sheet(["c"], [("p", ["c"])], [("s", ["c"], ["ok"])])
END = ("out", ("end",))
BOTH = Machine(SHEET, [("ask", "p", 1, 2), ("mark", "a", 2), ("mark", "b", 1)])
SINGLE = Machine(SHEET, [("do", "s", (("ok", 1),)), ("ask", "p", 2, 0), END])
SELF = Machine(SHEET, [("ask", "p", 1, 2), ("mark", "a", 1), ("round",)])


def simple_roads(machine):
    """All roads that have no point twice; what a road has, one of these has no more."""
    found = [[0]]
    for road in found:
        found.extend([road + [goal] for goal in sorted(set(machine.behind(road[-1]))) if goal not in road])
    return found


def all_rings(machine):
    """All rings, each begun at each of its points."""
    found = []
    for begin in range(len(machine)):
        left = [[begin]]
        while left:
            ring = left.pop()
            goals = machine.behind(ring[-1])
            if begin in goals:
                found.append(ring)
            left.extend([ring + [goal] for goal in set(goals) if goal not in ring])
    return found


def plain_doors(machine, ring):
    found = set()
    for road in simple_roads(machine):
        if road[-1] in ring and not set(road[:-1]) & set(ring):
            found.add(road[-1])
    return sorted(found)


class Examples(unittest.TestCase):
    def test_the_example(self):
        self.assertEqual(forms(doors(BOTH, [1, 2])), forms([1, 2]))
        self.assertIs(is_crossing(BOTH, ([1, 2], [0, 1], [0, 2])), True)
        self.assertEqual(forms(passed(BOTH)), forms([[0], [0, 1], [0, 2]]))
        self.assertIsNone(crossing(SINGLE))
        self.assertEqual(forms(leads_back(SINGLE)), forms([(1, 0)]))
        self.assertEqual(forms(door_road(SINGLE, [0, 1], 0)), forms([0]))
        self.assertIsNone(door_road(SINGLE, [0, 1], 1))

    def test_a_machine_of_one_point(self):
        for point in (END, ("round",), ("mark", "a", 0), ("ask", "p", 0, 0), ("do", "s", (("ok", 0),))):
            machine = Machine(SHEET, [point])
            leads = point != END
            self.assertEqual(forms(passed(machine)), forms([[0]]))
            self.assertEqual(forms(leads_back(machine)), forms([(0, 0)] if leads else []))
            self.assertIsNone(crossing(machine))
            self.assertIs(is_ring(machine, [0]), leads)
            self.assertIs(is_road(machine, [0]), True)
            self.assertIs(is_road(machine, [0, 0, 0]), leads)
            if leads:
                self.assertEqual([doors(machine, [0]), door_road(machine, [0], 0)], [[0], [0]])

    def test_a_point_that_leads_to_itself(self):
        self.assertEqual(leads_back(SELF), [(1, 1), (2, 2)])
        self.assertEqual([doors(SELF, [1]), door_road(SELF, [1], 1), door_road(SELF, [2], 2)], [[1], [0, 1], [0, 2]])
        self.assertEqual([is_ring(SELF, [1]), is_ring(SELF, [2]), is_ring(SELF, [0])], [True, True, False])
        self.assertIsNone(crossing(SELF))
        self.assertIs(is_road(SELF, [0, 2, 2, 2]), True)

    def test_a_ring_through_the_begin_has_one_door(self):
        points = [("ask", "p", 1, 2), ("mark", "a", 2), ("ask", "p", 0, 1)]
        machine = Machine(SHEET, points)
        for ring in ([0, 1, 2], [1, 2, 0], [2, 0, 1], [0, 2], [2, 0]):
            self.assertIs(is_ring(machine, ring), True)
            self.assertEqual(doors(machine, ring), [0])
            self.assertEqual([door_road(machine, ring, point) for point in range(3)], [[0], None, None])
        # but there is one that does not go through it
        self.assertTrue(is_crossing(machine, crossing(machine)))
        self.assertEqual(sorted(crossing(machine)[0]), [1, 2])
        self.assertEqual(leads_back(machine), [(2, 0)])

    def test_a_point_that_is_not_of_the_ring_is_no_door(self):
        self.assertIsNone(door_road(BOTH, [1, 2], 0))
        self.assertIsNone(door_road(SINGLE, [0, 1], 2))

    def test_a_goal_that_a_point_has_twice_counts_once(self):
        machine = Machine(SHEET, [("ask", "p", 0, 0)])
        self.assertEqual(leads_back(machine), [(0, 0)])


class Forms(unittest.TestCase):
    def test_roads(self):
        for road in ([0], [0, 1], [0, 2], [0, 1, 2, 1, 2], [0, 2, 1]):
            self.assertIs(is_road(BOTH, road), True)
        wrong = [[], (0,), (0, 1), [1], [1, 2], [0, 0], [0, 3], [0, -1], [False], [0, True], [0, "1"], [0, None], [[0]],
                 [0, (1,)], {0: 1}, 0, [0, 1, 0], [0, 1, 1], [None], ["0"]]
        for thing in wrong + [thing for thing in samples.ODDITIES if thing != [0]]:
            self.assertIs(is_road(BOTH, thing), False)

    def test_rings(self):
        for ring in ([1, 2], [2, 1]):
            self.assertIs(is_ring(BOTH, ring), True)
        wrong = [[], [1], [0], [1, 2, 1], [1, 2, 1, 2], (1, 2), [0, 1, 2], [True, 2], [1, None], [[1], 2],
                 [1, 3], [-1, 2], {1: 2}, [2, True], [0, 1], [0, 2]]
        for thing in wrong + samples.ODDITIES:
            self.assertIs(is_ring(BOTH, thing), False)

    def test_crossings(self):
        for right in (([1, 2], [0, 1], [0, 2]), ([1, 2], [0, 2], [0, 1]), ([2, 1], [0, 1], [0, 2])):
            self.assertIs(is_crossing(BOTH, right), True)
        wrong = [([1, 2], [0, 1], [0, 1]), ([1, 2], [0, 2], [0, 2]), ([1, 2], [0, 1], [0, 1, 2]), ([1, 2], [0, 2, 1], [0, 2]),
                 ([1], [0, 1], [0, 2]), ([1, 2], [0], [0, 2]), ([1, 2], [0, 1], [0]), [[1, 2], [0, 1], [0, 2]],
                 ([1, 2], [0, 1]), ([1, 2], [0, 1], [0, 2], [0, 2]), ([1, 2], (0, 1), [0, 2]), ((1, 2), [0, 1], [0, 2]),
                 ([1, 2], [False, 1], [0, 2]), ([1, 2], [0, True], [0, 2]), ([True, 2], [0, 1], [0, 2]), ([1, 2], None, None),
                 ([1, 2], [1], [0, 2]), ([0, 1], [0], [0, 1]), (None, [0, 1], [0, 2])]
        for thing in wrong + samples.ODDITIES + [([], [], []), ([1, 2], [], [])]:
            self.assertIs(is_crossing(BOTH, thing), False)

    def test_a_road_may_come_to_its_end_more_than_once(self):
        machine = Machine(SHEET, [("ask", "p", 1, 2), ("ask", "p", 1, 2), ("mark", "b", 1)])
        self.assertIs(is_crossing(machine, ([1, 2], [0, 1, 1], [0, 2])), True)
        self.assertIs(is_crossing(machine, ([1, 2], [0, 1, 1, 2], [0, 1])), False)
        self.assertIs(is_crossing(machine, ([1], [0, 1], [0, 1, 1])), False)

    def test_twisted_crossings(self):
        for thing in samples.twisted(([1, 2], [0, 1], [0, 2])):
            told = is_crossing(BOTH, thing)
            right = forms(thing) in [forms(other) for other in self.all_crossings(4)]
            self.assertIs(told, right)

    def all_crossings(self, longest):
        roads = [[0, 1], [0, 2]]
        return [(list(ring), one, other) for ring in permutations([1, 2]) for one in roads for other in roads if one != other]


class Compared(unittest.TestCase):
    def machines(self, many):
        for seed in range(many):
            luck = samples.dice(seed)
            sheet = samples.random_sheet(luck)
            make = samples.lively_machine if seed % 3 else samples.random_machine
            yield make(luck, sheet, luck.choice([2, 4, 6, 8]))

    def test_doors(self):
        for machine in self.machines(120):
            roads = simple_roads(machine)
            for ring in all_rings(machine)[:60]:
                self.assertIs(is_ring(machine, ring), True)
                wanted = plain_doors(machine, ring)
                self.assertEqual(doors(machine, ring), wanted)
                for point in range(len(machine)):
                    road = door_road(machine, ring, point)
                    self.assertIs(road is not None, point in wanted)
                    if road is not None:
                        fit = [one for one in roads if one[-1] == point and not set(one[:-1]) & set(ring)]
                        self.assertIn(road, fit)
                        self.assertEqual(len(road), min(map(len, fit)))

    def test_passed(self):
        for machine in self.machines(150):
            roads = simple_roads(machine)
            wanted = []
            for point in range(len(machine)):
                wanted.append(sorted(set.intersection(*[set(road) for road in roads if road[-1] == point])))
            self.assertEqual(passed(machine), wanted)
            edges = {(point, goal) for point in range(len(machine)) for goal in machine.behind(point)}
            self.assertEqual(leads_back(machine), sorted(edge for edge in edges if edge[1] in wanted[edge[0]]))

    def test_crossings(self):
        seen = {True: 0, False: 0}
        for machine in self.machines(600):
            crossed = any(len(plain_doors(machine, ring)) > 1 for ring in all_rings(machine))
            told = crossing(machine)
            self.assertIs(told is not None, crossed)
            if crossed:
                self.assertIs(is_crossing(machine, told), True)
            seen[crossed] += 1
        self.assertGreater(min(seen.values()), 30)

    def test_the_machine_of_a_program_has_no_crossing(self):
        for seed in range(150):
            luck = samples.dice(seed)
            program = samples.small_program(luck, samples.random_sheet(luck), 100)
            self.assertIsNone(crossing(machine_of(program)))

    def test_forty_points(self):
        points = [("ask", "p", (at + 1) % 40, (at * 7 + 3) % 40) for at in range(40)]
        machine = Machine.made(SHEET, points, 0)
        self.assertEqual(len(machine), 40)
        self.assertIs(is_crossing(machine, crossing(machine)), True)
        self.assertEqual([len(passed(machine)), passed(machine)[0]], [40, [0]])

    def test_what_is_told_is_new(self):
        doors(BOTH, [1, 2]).clear()
        for some in passed(BOTH):
            some.clear()
        for part in crossing(BOTH):
            part.clear()
        leads_back(SINGLE).clear()
        door_road(BOTH, [1, 2], 1).clear()
        self.assertEqual(passed(BOTH), [[0], [0, 1], [0, 2]])
        self.assertIs(is_crossing(BOTH, crossing(BOTH)), True)
        ring = [2, 1]
        self.assertEqual([doors(BOTH, ring), leads_back(SINGLE), door_road(BOTH, ring, 1)], [[1, 2], [(1, 0)], [0, 1]])
        self.assertEqual(ring, [2, 1])


if __name__ == "__main__":
    unittest.main()
