"""Laying out: the machine of a program, and the places of its points."""

from fourfaces.errors import TooMany
from fourfaces.flow import Flow
from fourfaces.machines import Machine, with_goals
from fourfaces.words import is_integer

MOST = 100


class Layout:
    """The points of a program as they are met, with what is lost, and come to, on the way to each goal."""

    def __init__(self, program):
        flow = Flow(program)
        key, self._lost_first, self._come_first = flow.follow(("begin", (), "", (), 0, ()))
        self._keys, self._goals, self._lost, self._come, self._number = [key], [], [], [], {key: 0}
        while len(self._goals) < len(self._keys):
            self._add_goals(flow, self._keys[len(self._goals)])
        self._program = program

    def _add_goals(self, flow, key):
        """Adds the goals of the next point, and those of them that are met first."""
        tasks = flow.tasks(key[1]) if key[0] == "at" else []
        ends = [flow.follow(task) for task in tasks]
        for goal, _, _ in ends:
            if goal not in self._number:
                self._number[goal] = len(self._keys)
                self._keys.append(goal)
        if len(self._keys) > MOST:
            raise TooMany(MOST)
        self._goals.append([self._number[end[0]] for end in ends])
        self._lost.append([end[1] for end in ends])
        self._come.append([end[2] for end in ends])

    def _point(self, key):
        """The point of a key, as yet with any goals."""
        if key[0] != "at":
            return key
        row = self._program.row_at(key[1][1])
        if row[0] == "do":
            return ("do", row[1], tuple([(outcome, 0) for outcome in self._program.sheet.outcomes(row[1])]))
        return ("ask", row[1], 0, 0) if row[0] == "if" else ("mark", row[1], 0)

    def machine(self):
        """The Machine."""
        points = [with_goals(self._point(key), goals) for key, goals in zip(self._keys, self._goals)]
        return Machine(self._program.sheet, points)

    def places(self):
        """The list of the places of the points, with None for exits and going round."""
        return [key[1] if key[0] == "at" else None for key in self._keys]

    def lost_first(self):
        """The list of the losses ahead of the first point."""
        return list(self._lost_first)

    def lost_by(self, point, at):
        """The list of the losses on the way from a point to its goal of this index."""
        return list(self._lost[point][at])

    def come_first(self):
        """The list of the addresses of the rows come to ahead of the first point, and of that point's own."""
        return list(self._come_first)

    def come_by(self, point, at):
        """The list of the addresses of the rows come to on the way from a point to its goal of this index."""
        return list(self._come[point][at])


def machine_of(program):
    """The Machine of a program."""
    return Layout(program).machine()


def places_of(program):
    """The list of the places of the points of a program's machine."""
    return Layout(program).places()


def is_address(program, thing):
    """Whether a thing is the address of a row of a program."""
    if not isinstance(thing, tuple) or len(thing) != 2 or not isinstance(thing[1], tuple):
        return False
    return all([is_integer(part) for part in thing[1]]) and thing in program.addresses()


def points_of(program, address):
    """The ascending list of the points whose places have an address."""
    if not is_address(program, address):
        return []
    places = places_of(program)
    return [point for point, place in enumerate(places) if place is not None and place[1] == address]
