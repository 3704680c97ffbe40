"""Frames: runs under way in a world, led back by their logs and carried to other machines."""

from fourfaces.alike import alike_points
from fourfaces.errors import NoRun, Over, Unlike
from fourfaces.graphs import how_many_ways, way_to
from fourfaces.refining import goal_by
from fourfaces.runs import Web, words_along


class Frame:
    """A run of a machine under way in a world, which goes on point for point."""

    def __init__(self, machine, world, state):
        self._machine, self._world, self._rows = machine, world, machine.points()
        self._passed = [(0, state)]

    def machine(self):
        """The Machine."""
        return self._machine

    def world(self):
        """The World."""
        return self._world

    def point(self):
        """The point at which it stands."""
        return self._passed[-1][0]

    def state(self):
        """The state of the world in which it stands."""
        return self._passed[-1][1]

    def points(self):
        """The list of the points at which it stood, the present one last."""
        return [point for point, state in self._passed]

    def log(self, watch):
        """The list of the words of a watch that it has written."""
        return words_along(self._machine, watch, self.points())

    def answers(self):
        """The answers of its state."""
        return self._world.answers(self.state())

    def _stand_behind(self):
        """The point and the state to which it goes next, or None if it stands at an exit."""
        point, state = self._passed[-1]
        row = self._rows[point]
        if row[0] == "do":
            outcome, later = self._world.lead(state, row[1])
            return (goal_by(self._rows, point, outcome), later)
        if row[0] == "ask":
            place = self._machine.sheet.names().index(row[1])
            return (row[2] if self.answers()[place] else row[3], state)
        if row[0] == "mark":
            return (row[2], state)
        return (point, state) if row[0] == "round" else None

    def step(self):
        """Goes to the next point."""
        stand = self._stand_behind()
        if stand is None:
            raise Over()
        self._passed.append(stand)

    def go(self, most):
        """Goes on until it stands at an exit, but so many times at the most; returns how often it did."""
        many = 0
        while many < most and self._rows[self.point()][0] != "out":
            self.step()
            many += 1
        return many

    def back(self):
        """Goes back to where it stood ahead of the last step."""
        if len(self._passed) == 1:
            raise Over()
        self._passed.pop()

    def copied(self):
        """A Frame that stands alike, with the same past, and goes on by itself."""
        return frame_behind(self._machine, self._world, self._passed)


def frame_behind(machine, world, passed):
    """A Frame with a past, a list of tuples (point, state), where it stands last."""
    frame = Frame(machine, world, passed[0][1])
    frame._passed = list(passed)
    return frame


def written_along(machine, watch, words):
    """The graph of the tuples (node, many): nodes of the beginnings that have written so many of some words, no others.

    It comes with the tuple at which it begins.
    """
    web, found = Web(machine), {}
    left = [(web.first(), 0)]
    while left:
        node, many = left.pop()
        if (node, many) not in found:
            row, later = web.row(node), many
            if row[0] == "mark" and row[1] in watch:
                later = many + 1 if words[many:many + 1] == [row[1]] else None
            found[(node, many)] = [] if later is None else [(goal, later) for goal in web.after(node)]
            left.extend(found[(node, many)])
    return found, (web.first(), 0)


def told_back(machine, watch, log, point):
    """The only beginning that ends at a point and has a log."""
    graph, first = written_along(machine, watch, list(log))
    ends = [(node, many) for node, many in graph if node[0] == point and many == len(log)]
    count = how_many_ways(graph, first, ends)
    if count == 0:
        raise NoRun()
    if count != 1:
        raise Unlike()
    return [node[0] for node, many in way_to(graph, [first], lambda place: place in ends)]


def carried(frame, machine):
    """The list of the Frames of another machine that stand where it shows the same as a frame does."""
    points = alike_points(frame.machine(), frame.point(), machine, frame.answers())
    return [frame_behind(machine, frame.world(), [(point, frame.state())]) for point in points]
