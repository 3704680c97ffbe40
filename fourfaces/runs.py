"""Runs and beginnings: lists of points along which some trace leads, and the nodes at which they stand."""

from fourfaces.answers import behind_table
from fourfaces.errors import TooMany
from fourfaces.graphs import how_many_ways, ways_out
from fourfaces.machines import is_goal

MOST_RUNS = 2000


class Web:
    """The nodes of a machine, and from each of them those behind it."""

    def __init__(self, machine):
        self._points, self._names = machine.points(), machine.sheet.names()
        self._behind = behind_table(machine.sheet)
        self._found = {}

    def first(self):
        """The node at which all beginnings begin."""
        return (0, tuple(self._behind))

    def row(self, node):
        """The point of a node, as its machine tells it."""
        return self._points[node[0]]

    def is_out(self, node):
        """Whether a node stands at an exit."""
        return self.row(node)[0] == "out"

    def after(self, node):
        """The ascending list of the nodes to which a beginning with a node leads with one point more."""
        if node not in self._found:
            lots = {}
            for goal, answers in self._led(node):
                lots.setdefault(goal, {})[answers] = True
            self._found[node] = [(goal, tuple(sorted(lots[goal]))) for goal in sorted(lots)]
        return list(self._found[node])

    def _led(self, node):
        """The list of the goals of a node's point, each with answers that can stand there then."""
        point, lot = node
        row = self._points[point]
        if row[0] == "do":
            found = []
            for outcome, goal in row[2]:
                found.extend([(goal, later) for answers in lot for later in self._behind[answers][(row[1], outcome)]])
            return found
        if row[0] == "ask":
            place = self._names.index(row[1])
            return [(row[2] if answers[place] else row[3], answers) for answers in lot]
        if row[0] == "mark":
            return [(row[2], answers) for answers in lot]
        return [(point, answers) for answers in lot] if row[0] == "round" else []

    def goals(self):
        """The graph of the nodes of all beginnings: a dict from them to the lists of those behind."""
        found, left = {}, [self.first()]
        while left:
            node = left.pop()
            if node not in found:
                found[node] = self.after(node)
                left.extend(found[node])
        return found

    def nodes_along(self, thing):
        """The list of the nodes along a beginning, or None for a thing that is none."""
        if not isinstance(thing, list) or not thing:
            return None
        if not all([is_goal(point, len(self._points)) for point in thing]) or thing[0] != 0:
            return None
        found = [self.first()]
        for point in thing[1:]:
            some = [node for node in self.after(found[-1]) if node[0] == point]
            if not some:
                return None
            found.append(some[0])
        return found


def is_run(machine, thing):
    """Whether a thing is a run of a machine."""
    web = Web(machine)
    along = web.nodes_along(thing)
    return along is not None and web.is_out(along[-1])


def is_beginning(machine, thing):
    """Whether a thing is a beginning of a machine."""
    return Web(machine).nodes_along(thing) is not None


def node_of(machine, points):
    """The node of a beginning."""
    return Web(machine).nodes_along(points)[-1]


def nodes(machine):
    """The ascending list of the nodes of all beginnings."""
    return sorted(Web(machine).goals())


def next_nodes(machine, node):
    """The ascending list of the nodes to which a beginning with a node leads with one point more."""
    return Web(machine).after(node)


def log(machine, watch, points):
    """The log of a run or a beginning."""
    return words_along(machine, watch, points)


def words_along(machine, watch, points):
    """The words of points, but for the last one, that are in a watch, in order."""
    rows = machine.points()
    passed = [rows[point] for point in points[:-1]]
    return [row[1] for row in passed if row[0] == "mark" and row[1] in watch]


def runs(machine, most):
    """The list of the runs with at most so many points, shorter ones first, then as Python orders lists."""
    web = Web(machine)
    goals = web.goals()
    left = ways_out(goals, [node for node in goals if web.is_out(node)])
    found, some = [], [([0], web.first())]
    for many in range(1, most + 1):
        # each beginning that is kept can still come to an exit in time
        some = [(points, node) for points, node in some if node in left and left[node] + many <= most]
        found.extend([points for points, node in some if left[node] == 0])
        some = [(points, node) for points, node in some if left[node] > 0]
        if len(found) + len(some) > MOST_RUNS:
            raise TooMany(MOST_RUNS)
        some = [(points + [goal[0]], goal) for points, node in some for goal in goals[node]]
    return found


def run_count(machine):
    """How many runs there are, or None if there is no end of them."""
    web = Web(machine)
    goals = web.goals()
    return how_many_ways(goals, web.first(), [node for node in goals if web.is_out(node)])
