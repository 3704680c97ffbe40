"""Frames: runs under way in a world, that are led back by their logs and carried to other machines."""

import unittest

import oracle
import samples
import watching
from checks import forms, is_just, raised
from fourfaces.answers import can_be
from fourfaces.errors import NoRun, Over, Unlike
from fourfaces.frames import Frame, carried, told_back
from fourfaces.laying import machine_of
from fourfaces.machines import Machine
from fourfaces.playing import played, trace_of, written
from fourfaces.programs import Program
from fourfaces.runs import is_beginning, is_run
from fourfaces.sheets import Sheet
from fourfaces.watches import tells_beginnings
from fourfaces.worlds import World, whole_world

BARE = Sheet([], [("p", [])], [])
SHEET = Sheet(["c"], [("p", ["c"])], [("s", ["c"], ["bad", "ok"])])
END = ("out", ("end",))
FORK = machine_of(Program(BARE, (("if", "p", (("mark", "a"),), (("mark", "b"),)), ("mark", "c"))))
YES = World(BARE, [((True,), {}), ((False,), {})])
# asks first, then does the step again and again as long as it ends by bad
TRYING = Machine(SHEET, [("ask", "p", 1, 2), ("mark", "u", 2), ("do", "s", (("bad", 2), ("ok", 3))), END])
TURNS = World(SHEET, [((True,), {"s": ("bad", 1)}), ((False,), {"s": ("bad", 2)}), ((True,), {"s": ("ok", 0)})])


def stands(frame):
    """All that a frame tells of where it stands."""
    return [frame.point(), frame.state(), frame.points(), frame.answers(), frame.log(("u", "v", "w"))]


def samples_of_frames(many):
    """Machines with worlds that keep their sheets, and states of these."""
    for seed in range(many):
        luck = samples.dice(seed)
        sheet = samples.random_sheet(luck, 2, 2)
        machine = samples.lively_machine(luck, sheet, luck.choice([3, 5, 8]), seed % 3 == 0)
        world = samples.keeping_world(luck, sheet)
        yield luck, machine, world, luck.randrange(len(world))


class Frames(unittest.TestCase):
    def test_the_example(self):
        frame = Frame(FORK, YES, 0)
        told = [frame.go(2), frame.point(), frame.points(), frame.log(("a",)), told_back(FORK, ("a",), ["a"], 3)]
        self.assertEqual(forms(told), forms([2, 3, [0, 1, 3], ["a"], [0, 1, 3]]))
        other = Machine(BARE, [END])
        found = carried(frame, other)
        self.assertEqual([len(found), found[0].point(), found[0].points()], [1, 0, [0]])

    def test_at_the_begin(self):
        frame = Frame(TRYING, TURNS, 1)
        self.assertTrue(frame.machine() == TRYING and frame.world() == TURNS)
        self.assertEqual(forms(stands(frame)), forms([0, 1, [0], (False,), []]))
        with self.assertRaises(Over):
            frame.back()
        self.assertEqual(stands(frame), [0, 1, [0], (False,), []])

    def test_step_for_step(self):
        frame, states = Frame(TRYING, TURNS, 0), []
        for _ in range(5):
            self.assertIsNone(frame.step())
            states.append((frame.point(), frame.state(), frame.answers()))
        told = [(1, 0, (True,)), (2, 0, (True,)), (2, 1, (False,)), (2, 2, (True,)), (3, 0, (True,))]
        self.assertEqual(forms(states), forms(told))
        self.assertEqual([frame.points(), frame.log(("u",)), frame.log(())], [[0, 1, 2, 2, 2, 3], ["u"], []])
        kind, fields = raised(frame.step)
        self.assertEqual((kind, fields), (Over, {}))
        self.assertEqual(frame.points(), [0, 1, 2, 2, 2, 3])
        self.assertEqual(frame.go(7), 0)
        for point, state in [(2, 2), (2, 1), (2, 0), (1, 0), (0, 0)]:
            self.assertIsNone(frame.back())
            self.assertEqual((frame.point(), frame.state()), (point, state))
        self.assertEqual(raised(frame.back), (Over, {}))

    def test_the_log_leaves_the_last_point_out(self):
        frame = Frame(FORK, YES, 1)
        frame.step()
        self.assertEqual([frame.point(), frame.log(("a", "b", "c"))], [2, []])
        frame.step()
        self.assertEqual(frame.log(("a", "b", "c")), ["b"])
        frame.step()
        self.assertEqual([frame.log(("a", "b", "c")), frame.log(("c",))], [["b", "c"], ["c"]])

    def test_going_round(self):
        machine = Machine(BARE, [("mark", "u", 1), ("round",)])
        frame = Frame(machine, YES, 0)
        self.assertEqual(forms([frame.go(4), frame.points(), frame.log(("u",))]), forms([4, [0, 1, 1, 1, 1], ["u"]]))
        frame.step()
        self.assertEqual(frame.points(), [0, 1, 1, 1, 1, 1])
        frame.back()
        self.assertEqual([frame.points(), frame.go(0)], [[0, 1, 1, 1, 1], 0])
        self.assertEqual(raised(told_back, machine, ("u",), ["u"], 1), (Unlike, {}))

    def test_going_stops_at_an_exit(self):
        frame = Frame(TRYING, TURNS, 2)
        self.assertEqual(forms([frame.go(100), frame.points()]), forms([3, [0, 1, 2, 3]]))
        lone = Frame(Machine(BARE, [END]), YES, 0)
        self.assertEqual([lone.go(3), lone.points()], [0, [0]])
        self.assertEqual(raised(lone.step), (Over, {}))

    def test_a_copy_goes_on_by_itself(self):
        frame = Frame(TRYING, TURNS, 0)
        frame.go(2)
        copy = frame.copied()
        self.assertTrue(is_just(copy, Frame) and copy.machine() == TRYING and copy.world() == TURNS)
        self.assertEqual(stands(copy), stands(frame))
        copy.go(2)
        self.assertEqual([frame.points(), copy.points()], [[0, 1, 2], [0, 1, 2, 2, 2]])
        frame.back()
        frame.back()
        self.assertEqual([frame.points(), copy.points()], [[0], [0, 1, 2, 2, 2]])
        for _ in range(4):
            copy.back()
        self.assertEqual(raised(copy.back), (Over, {}))

    def test_what_is_told_is_new(self):
        frame = Frame(TRYING, TURNS, 0)
        frame.go(3)
        frame.points().append(7)
        frame.log(("u",)).append("x")
        frame.machine().points().clear()
        self.assertEqual([frame.points(), frame.log(("u",)), frame.go(1)], [[0, 1, 2, 2], ["u"], 1])

    def test_frames_go_as_is_played(self):
        ends = set()
        for luck, machine, world, state in samples_of_frames(150):
            frame = Frame(machine, world, state)
            turns, end = played(machine, world, state)
            done, many = [], 0
            while len(done) < len(turns) and many < 200:
                row = machine.points()[frame.point()]
                frame.step()
                many += 1
                if row[0] == "do":
                    done.append((row[1], world.lead(turns[len(done) - 1][2] if done else state, row[1])[0], frame.state()))
            self.assertEqual(done, turns)
            if end[0] == "out":
                frame.go(1000)
                self.assertEqual(machine.points()[frame.point()], end)
                self.assertEqual(frame.log(("u", "v", "w")), written(machine, world, state))
                self.assertTrue(is_run(machine, frame.points()))
            ends.add(end[0])
            frame.go(5)
            self.assertTrue(is_beginning(machine, frame.points()))
            self.assertEqual(frame.answers(), world.answers(frame.state()))
            self.assertTrue(machine.goes_along(trace_of(machine, world, state)))
        self.assertEqual(ends, {"out", "never", "ring"})

    def test_back_leads_along_the_same_way(self):
        for luck, machine, world, state in samples_of_frames(60):
            frame, told = Frame(machine, world, state), []
            for _ in range(frame.copied().go(9)):
                told.append(stands(frame))
                frame.step()
            for former in reversed(told):
                frame.back()
                self.assertEqual(forms(stands(frame)), forms(former))
            self.assertEqual(raised(frame.back), (Over, {}))


class ToldBack(unittest.TestCase):
    def test_the_begin(self):
        self.assertEqual(forms(told_back(FORK, ("a",), [], 0)), forms([0]))
        self.assertEqual(told_back(FORK, (), [], 1), [0, 1])

    def test_none_and_several(self):
        self.assertEqual(raised(told_back, FORK, ("a",), ["a"], 1), (NoRun, {}))
        self.assertEqual(raised(told_back, FORK, ("a",), ["a"], 2), (NoRun, {}))
        self.assertEqual(raised(told_back, FORK, ("c",), [], 3), (Unlike, {}))
        self.assertEqual(told_back(FORK, ("a",), [], 3), [0, 2, 3])
        self.assertEqual(raised(told_back, FORK, ("a",), ["b"], 3), (NoRun, {}))
        self.assertEqual(raised(told_back, FORK, ("a", "b"), ["a", "b"], 4), (NoRun, {}))

    def test_a_word_that_no_mark_has(self):
        self.assertEqual(raised(told_back, FORK, ("z",), ["z"], 4), (NoRun, {}))

    def test_rounds_without_a_word(self):
        # each round of the step is one beginning more
        self.assertEqual(raised(told_back, TRYING, ("u",), [], 2), (Unlike, {}))
        ring = Machine(SHEET, [("mark", "u", 1), ("do", "s", (("bad", 0), ("ok", 2))), END])
        self.assertEqual(told_back(ring, ("u",), ["u"] * 3, 1), [0, 1, 0, 1, 0, 1])
        self.assertEqual(told_back(ring, ("u",), ["u"] * 3, 0), [0, 1, 0, 1, 0, 1, 0])
        self.assertEqual(len(told_back(ring, ("u",), ["u"] * 200, 2)), 401)
        self.assertEqual(raised(told_back, ring, ("u",), [], 2), (NoRun, {}))

    def test_what_no_world_does(self):
        sheet = Sheet(["c"], [("p", ["c"])], [("s", [], ["ok"])])
        points = [("ask", "p", 1, 2), ("do", "s", (("ok", 2),)), ("ask", "p", 3, 4), ("mark", "u", 4), END]
        self.assertEqual(told_back(Machine(sheet, points), ("u",), ["u"], 4), [0, 1, 2, 3, 4])
        self.assertEqual(told_back(Machine(sheet, points), ("u",), [], 4), [0, 2, 4])

    def test_random_machines(self):
        kinds = {}
        for luck, machine, world, state in samples_of_frames(120):
            ground = oracle.Ground(machine.sheet)
            watch = tuple(samples.some_of(luck, ["u", "v", "w"]))
            most = 7
            some = [list(points) for points in watching.beginnings(ground, machine, most + 3)]
            logs = {}
            for points in some:
                logs.setdefault((points[-1], tuple(watching.log(machine, watch, points))), []).append(points)
            for (point, words), there in logs.items():
                if len(there) > 1:
                    told = (Unlike, {})
                elif len(there[0]) < most and tells_beginnings(machine, watch):
                    told = ("returned", there[0])
                else:
                    continue
                self.assertEqual(raised(told_back, machine, watch, list(words), point), told)
                kinds[told[0]] = True
        self.assertEqual(len(kinds), 2)

    def test_frames_are_led_back(self):
        led = 0
        for luck, machine, world, state in samples_of_frames(200):
            watch = tuple(machine.marks())
            if tells_beginnings(machine, watch):
                frame = Frame(machine, world, state)
                for _ in range(8):
                    frame.go(1)
                    self.assertEqual(told_back(machine, watch, frame.log(watch), frame.point()), frame.points())
                    led += 1
        self.assertGreater(led, 100)

    def test_the_log_stays(self):
        words = ["a"]
        told_back(FORK, ("a",), words, 3).append(9)
        self.assertEqual(words, ["a"])
        self.assertEqual(told_back(FORK, ("a",), words, 3), [0, 1, 3])


class Carried(unittest.TestCase):
    def test_unlike_sheets(self):
        self.assertEqual(raised(carried, Frame(FORK, YES, 0), TRYING), (Unlike, {}))

    def test_to_several_points_and_to_none(self):
        other = Machine(BARE, [("ask", "p", 1, 2), ("mark", "x", 3), ("round",), END])
        frame = Frame(FORK, YES, 0)
        self.assertEqual([one.point() for one in carried(frame, other)], [0, 1, 3])
        frame = Frame(FORK, YES, 1)
        self.assertEqual([one.point() for one in carried(frame, other)], [1, 3])
        self.assertEqual(carried(frame, Machine(BARE, [("round",)])), [])
        self.assertEqual(carried(frame, Machine(BARE, [("out", ("stop", "end"))])), [])

    def test_a_frame_that_stands_at_an_exit(self):
        frame = Frame(FORK, YES, 0)
        frame.go(9)
        found = carried(frame, FORK)
        self.assertEqual([one.points() for one in found], [[0], [1], [2], [3], [4]])
        self.assertEqual([one.go(9) for one in found], [3, 2, 2, 1, 0])

    def test_a_frame_that_goes_round(self):
        machine = Machine(BARE, [("mark", "u", 1), ("round",)])
        frame = Frame(machine, YES, 0)
        frame.go(3)
        found = carried(frame, Machine(BARE, [("mark", "v", 1), ("mark", "v", 0)]))
        self.assertEqual([one.point() for one in found], [0, 1])

    def test_a_carried_frame_does_not_go_back_beyond(self):
        frame = Frame(TRYING, TURNS, 0)
        frame.go(3)
        found = carried(frame, TRYING)
        # at these answers the ask leads to the step itself
        self.assertEqual([one.points() for one in found], [[0], [1], [2]])
        for one in found:
            self.assertEqual([one.state(), one.answers(), one.log(("u",))], [1, (False,), []])
            self.assertEqual(raised(one.back), (Over, {}))
            self.assertTrue(is_just(one, Frame) and one.world() == TURNS and one.machine() == TRYING)
        found[2].go(2)
        self.assertEqual(found[2].points(), [2, 2, 3])
        copy = found[2].copied()
        copy.back()
        copy.back()
        self.assertEqual([raised(copy.back), copy.point()], [(Over, {}), 2])
        self.assertEqual([frame.points(), found[1].points()], [[0, 1, 2, 2], [1]])

    def test_the_log_of_a_carried_frame(self):
        found = carried(Frame(FORK, YES, 0), FORK)[1]
        found.go(2)
        self.assertEqual([found.points(), found.log(("a", "c"))], [[1, 3, 4], ["a", "c"]])

    def test_carried_twice(self):
        frame = carried(Frame(FORK, YES, 0), FORK)[3]
        self.assertEqual([one.points() for one in carried(frame, FORK)], [[0], [1], [2], [3], [4]])

    def test_frames_go_on_alike(self):
        """Those that are carried do the same steps as the one that stays, and end likewise."""
        many = 0
        for luck, machine, world, state in samples_of_frames(120):
            other = samples.lively_machine(luck, machine.sheet, 5)
            frame, ground = Frame(machine, world, state), oracle.Ground(machine.sheet)
            frame.go(luck.randrange(6))
            wanted = oracle.alike(ground, machine, other)
            found = carried(frame, other)
            told = [q for p, q, answers in sorted(wanted) if p == frame.point() and answers == frame.answers()]
            self.assertEqual(forms([one.point() for one in found]), forms(told))
            for one in found:
                first = played(machine.from_point(frame.point()), world, frame.state())
                second = played(other.from_point(one.point()), world, one.state())
                both = sorted([first, second], key=lambda told: len(told[0]))
                self.assertEqual(both[0][0], both[1][0][:len(both[0][0])])
                self.assertTrue(first[1] == second[1] or "out" not in (first[1][0], second[1][0]))
                many += 1
        self.assertGreater(many, 60)

    def test_the_least_world(self):
        for luck, machine, world, state in samples_of_frames(30):
            least = whole_world(machine.sheet)
            for place in range(len(can_be(machine.sheet))):
                frame = Frame(machine, least, place)
                self.assertIn(0, [one.point() for one in carried(frame, machine)])


if __name__ == "__main__":
    unittest.main()
