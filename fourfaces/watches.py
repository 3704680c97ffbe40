"""Watches: whether the logs that they write tell runs, or beginnings."""

from fourfaces.answers import are_answers
from fourfaces.graphs import way_to, ways_out
from fourfaces.machines import is_goal
from fourfaces.runs import Web


class Net:
    """The nodes of a machine, numbered in ascending order, with those behind each one."""

    def __init__(self, machine):
        web = Web(machine)
        goals = web.goals()
        self.nodes = sorted(goals)
        self.number = {node: at for at, node in enumerate(self.nodes)}
        self.lines = [[self.number[goal] for goal in goals[node]] for node in self.nodes]
        self.source = self.number[web.first()]
        self.placed = [web.row(node) for node in self.nodes]
        self.outs = [row[0] == "out" for row in self.placed]

    def words(self, watch):
        """For each node the word that it writes, or None."""
        return [row[1] if row[0] == "mark" and row[1] in watch else None for row in self.placed]

    def lines_out(self):
        """The lines to those nodes alone from which an exit is come to."""
        ends = [at for at, is_out in enumerate(self.outs) if is_out]
        left = ways_out({at: goals for at, goals in enumerate(self.lines)}, ends)
        return [[goal for goal in goals if goal in left] for goals in self.lines]

    def points(self, numbers):
        """The points of nodes."""
        return [self.nodes[at][0] for at in numbers]

    def points_to(self, number):
        """The points of a shortest beginning with a node."""
        return self.points(way_to(self.lines, [self.source], lambda at: at == number))


class Sides:
    """The sides of a watch, as tuples of the numbers of two nodes, in the order in which they are found."""

    def __init__(self, net, lines, watch):
        self._net, self._lines, self._words = net, lines, net.words(watch)

    def begins(self):
        """The list of the tuples (side, node) of the sides of two unlike nodes next to one."""
        found = []
        for at, goals in enumerate(self._lines):
            for place, one in enumerate(goals):
                found.extend([((one, other), at) for other in goals[place + 1:]])
        return found

    def moved(self, side):
        """What comes behind a side: the list of tuples (goals, moves), moves telling which of the two goes on."""
        one, other = side
        first, second = self._words[one], self._words[other]
        if first is not None and second is not None:
            if first != second:
                return []
            return [((goal, beside), (True, True)) for goal in self._lines[one] for beside in self._lines[other]]
        found = []
        if first is None:
            found.extend([((goal, other), (True, False)) for goal in self._lines[one]])
        if second is None:
            found.extend([((one, goal), (False, True)) for goal in self._lines[other]])
        return found

    def search(self, is_wanted):
        """How each side is found first, up to one that is wanted, and this one, or None if there is none."""
        former, order, at = {}, [], 0
        for side, node in self.begins():
            if side not in former:
                former[side] = (None, side, node)
                order.append(side)
        while at < len(order):
            if is_wanted(order[at]):
                return former, order[at]
            for goals, moves in self.moved(order[at]):
                side = in_order(goals)
                if side not in former:
                    former[side] = (order[at], goals, moves)
                    order.append(side)
            at += 1
        return former, None

    def unlike(self, is_wanted):
        """Two beginnings with the same log that come to a side that is wanted, or None if there is none."""
        former, side = self.search(is_wanted)
        if side is None:
            return None
        chain = [former[side]]
        while chain[-1][0] is not None:
            chain.append(former[chain[-1][0]])
        _, goals, node = chain.pop()
        start = self._net.points_to(node)
        one, other = start + self._net.points(goals[:1]), start + self._net.points(goals[1:])
        for _, goals, moves in reversed(chain):
            one = one + (self._net.points(goals[:1]) if moves[0] else [])
            other = other + (self._net.points(goals[1:]) if moves[1] else [])
            if goals[1] < goals[0]:
                one, other = other, one
        return (min(one, other), max(one, other))


def in_order(pair):
    """Two numbers, the lesser one first."""
    return pair if pair[0] <= pair[1] else (pair[1], pair[0])


def silent_way(net, watch):
    """Two beginnings, the longer one coming to its last point where the other one ends, and to it once more behind.

    No word of the watch is written between; None if there are none.
    """
    words = net.words(watch)
    silent = [goals if words[at] is None else [] for at, goals in enumerate(net.lines)]
    for point in sorted(set([node[0] for node in net.nodes])):
        there = [at for at, node in enumerate(net.nodes) if node[0] == point]
        behind = sorted(set([goal for at in there for goal in silent[at]]))
        way = way_to(silent, behind, lambda at: net.nodes[at][0] == point)
        if way is not None:
            shorter = net.points_to([at for at in there if way[0] in silent[at]][0])
            return (shorter, shorter + net.points(way))
    return None


def runs_unlike(net, watch):
    """Two unlike runs with the same log, or None if there are none."""
    return Sides(net, net.lines_out(), watch).unlike(lambda side: net.outs[side[0]] and net.outs[side[1]])


def beginnings_unlike(net, watch):
    """Two unlike beginnings that end at the same point with the same log, or None if there are none."""
    silent = silent_way(net, watch)
    if silent is not None:
        return silent
    sides = Sides(net, net.lines, watch)
    return sides.unlike(lambda side: net.nodes[side[0]][0] == net.nodes[side[1]][0])


def tells_runs(machine, watch):
    """Whether no two unlike runs have the same log."""
    return runs_unlike(Net(machine), watch) is None


def tells_beginnings(machine, watch):
    """Whether no two unlike beginnings that end at the same point have the same log."""
    return beginnings_unlike(Net(machine), watch) is None


def two_runs(machine, watch):
    """Two unlike runs with the same log, the lesser one first, or None if there are none."""
    return runs_unlike(Net(machine), watch)


def two_beginnings(machine, watch):
    """Two unlike beginnings that end at the same point with the same log, or None if there are none."""
    return beginnings_unlike(Net(machine), watch)


def silent_round(machine, watch):
    """A beginning that comes to its last point anew, no word being written between, or None if there is none."""
    silent = silent_way(Net(machine), watch)
    return None if silent is None else silent[1]


def sides(machine, watch):
    """The least closed list of sides, ascending."""
    net = Net(machine)
    former, _ = Sides(net, net.lines, watch).search(lambda side: False)
    return [(net.nodes[one], net.nodes[other]) for one, other in sorted(former)]


def is_node(machine, net, thing):
    """Whether a thing is a node of a machine."""
    if not isinstance(thing, tuple) or len(thing) != 2 or not is_goal(thing[0], len(machine)):
        return False
    if not isinstance(thing[1], tuple) or not all([are_answers(machine.sheet, part) for part in thing[1]]):
        return False
    return thing in net.number


def is_side(machine, net, thing):
    """Whether a thing is a tuple of two nodes of a machine, the first one not greater than the second one."""
    if not isinstance(thing, tuple) or len(thing) != 2:
        return False
    return is_node(machine, net, thing[0]) and is_node(machine, net, thing[1]) and thing[0] <= thing[1]


def are_sides(machine, watch, thing):
    """Whether a thing is a closed list of sides."""
    net = Net(machine)
    if not isinstance(thing, list) or not all([is_side(machine, net, side) for side in thing]):
        return False
    there = {(net.number[one], net.number[other]): True for one, other in thing}
    if len(there) != len(thing):
        return False
    every = Sides(net, net.lines, watch)
    if not all([side in there for side, node in every.begins()]):
        return False
    return all([in_order(goals) in there for side in there for goals, moves in every.moved(side)])
