"""Machines: numbered points, the moves from them, and what is shown by traces."""

from fourfaces.answers import behind_table
from fourfaces.errors import NoTrace, Wrong
from fourfaces.sheets import Sheet
from fourfaces.traces import follows, opens
from fourfaces.words import is_exit, is_integer, is_name


def is_goal(thing, many):
    """Whether a thing is one of so many points."""
    return is_integer(thing) and 0 <= thing < many


def are_goals(thing, outcomes, many):
    """Whether a thing is a tuple of a goal for each outcome, in their order."""
    if not isinstance(thing, tuple) or len(thing) != len(outcomes):
        return False
    for goal, outcome in zip(thing, outcomes):
        if not isinstance(goal, tuple) or len(goal) != 2 or goal[0] != outcome or not is_goal(goal[1], many):
            return False
    return True


def is_point(sheet, thing, many):
    """Whether a thing is a point of a machine of a sheet with so many points."""
    if not isinstance(thing, tuple) or len(thing) == 0 or not isinstance(thing[0], str):
        return False
    kind, parts = thing[0], thing[1:]
    if kind == "round":
        return len(parts) == 0
    if kind == "out":
        return len(parts) == 1 and is_exit(parts[0])
    if len(parts) < 2 or not is_name(parts[0]):
        return False
    if kind == "do":
        outcomes = [row[2] for row in sheet.steps() if row[0] == parts[0]]
        return len(parts) == 2 and len(outcomes) == 1 and are_goals(parts[1], outcomes[0], many)
    if kind == "ask":
        return len(parts) == 3 and parts[0] in sheet.names() and is_goal(parts[1], many) and is_goal(parts[2], many)
    return kind == "mark" and len(parts) == 2 and is_goal(parts[1], many)


def goals_of(row):
    """The goals of a point, in order; of ("round",) none."""
    if row[0] == "do":
        return [goal for outcome, goal in row[2]]
    if row[0] == "ask":
        return [row[2], row[3]]
    return [row[2]] if row[0] == "mark" else []


def with_goals(row, goals):
    """The point with other goals, as many as it has."""
    if row[0] == "do":
        return ("do", row[1], tuple([(end[0], goal) for end, goal in zip(row[2], goals)]))
    if row[0] in ("ask", "mark"):
        return (row[0], row[1]) + tuple(goals)
    return row


def met(goals, begin):
    """The points in the order in which they are met from one, goals being the list of the goals of each."""
    order, seen, at = [begin], {begin: True}, 0
    while at < len(order):
        point = order[at]
        for goal in goals[point]:
            if goal not in seen:
                seen[goal] = True
                order.append(goal)
        at += 1
    return order


def are_points(sheet, thing):
    """Whether a thing is points of a machine of a sheet, numbered as they are met."""
    if not isinstance(thing, (list, tuple)) or not thing:
        return False
    if not all([is_point(sheet, row, len(thing)) for row in thing]):
        return False
    ends = [row for row in thing if row[0] in ("out", "round")]
    if len(ends) != len(set(ends)):
        return False
    return met([goals_of(row) for row in thing], 0) == list(range(len(thing)))


def put_together(points):
    """For each point the first one that is the same exit or round, otherwise itself."""
    first, found = {}, []
    for at, row in enumerate(points):
        if row[0] in ("out", "round"):
            found.append(first.setdefault(row, at))
        else:
            found.append(at)
    return found


class Machine:
    """Points that lead to one another; it begins at the point 0."""

    def __init__(self, sheet, points):
        if not isinstance(sheet, Sheet):
            raise Wrong(0)
        if not are_points(sheet, points):
            raise Wrong(1)
        self._sheet = sheet
        self._points = list(points)
        self._asks = {name: at for at, name in enumerate(sheet.names())}
        self._table = behind_table(sheet)

    @staticmethod
    def made(sheet, points, begin):
        """The Machine of points that are numbered anyhow, from one of them on."""
        place = put_together(points)
        goals = [[place[goal] for goal in goals_of(row)] for row in points]
        order = met(goals, place[begin])
        number = {point: at for at, point in enumerate(order)}
        rows = [with_goals(points[point], [number[goal] for goal in goals[point]]) for point in order]
        return Machine(sheet, rows)

    def __eq__(self, other):
        return isinstance(other, Machine) and self._sheet == other._sheet and self._points == other._points

    def __len__(self):
        return len(self._points)

    @property
    def sheet(self):
        """The Sheet."""
        return self._sheet

    def points(self):
        """The list of the points."""
        return list(self._points)

    def behind(self, point):
        """The list of the points behind one, each as often as it is a goal."""
        row = self._points[point]
        return [point] if row[0] == "round" else goals_of(row)

    def marks(self):
        """The ascending list of the different words of its points."""
        return sorted(set([row[1] for row in self._points if row[0] == "mark"]))

    def path_from(self, point, answers):
        """The list of the points from one on, at answers, up to a step, an exit, or one that is there already."""
        passed, seen = [], {}
        while point not in seen:
            passed.append(point)
            seen[point] = True
            row = self._points[point]
            if row[0] == "ask":
                point = row[2] if answers[self._asks[row[1]]] else row[3]
            elif row[0] == "mark":
                point = row[2]
        return passed

    def move(self, point, answers):
        """The move from a point, at answers."""
        last = self.path_from(point, answers)[-1]
        row = self._points[last]
        if row[0] == "do":
            return ("do", row[1], last)
        return row if row[0] == "out" else ("never",)

    def _turned(self, point, answers, turn):
        """The point to which a turn, any value, leads in a situation, or None."""
        move = self.move(point, answers)
        if not follows(self._sheet, self._table, answers, turn) or move[0] != "do" or move[1] != turn[0]:
            return None
        return [goal for outcome, goal in self._points[move[2]][2] if outcome == turn[1]][0]

    def situation_behind(self, thing):
        """A tuple of None and the situation to which a trace leads, or of what NoTrace tells, and None."""
        if not opens(self._sheet, self._table, thing):
            return 0, None
        point, answers = 0, thing[0]
        for at, turn in enumerate(thing[1]):
            point = self._turned(point, answers, turn)
            if point is None:
                return at + 1, None
            answers = turn[2]
        return None, (point, answers)

    def goes_along(self, trace):
        """Whether the machine goes along a trace."""
        return self.situation_behind(trace)[0] is None

    def shows(self, trace):
        """What the machine shows by a trace."""
        at, situation = self.situation_behind(trace)
        if at is not None:
            raise NoTrace(at)
        return self.move(situation[0], situation[1])[:2]

    def from_point(self, point):
        """The Machine that begins at a point."""
        return Machine.made(self._sheet, self._points, point)
