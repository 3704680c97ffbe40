"""Alike: whether two machines, or two points, show the same, and what parts them."""

from fourfaces.answers import are_answers, behind_table, can_be
from fourfaces.errors import Unlike
from fourfaces.machines import is_goal
from fourfaces.refining import classes, goal_by, graph_of
from fourfaces.traces import trace_back


class Both:
    """Two machines of equal sheets, looked at together."""

    def __init__(self, one, other):
        if one.sheet != other.sheet:
            raise Unlike()
        self._one, self._other = one, other
        self._one_points, self._other_points = one.points(), other.points()
        self._behind = behind_table(one.sheet)

    def begins(self):
        """The list of the pairs of the begins, with all answers that can be."""
        return [(0, 0, answers) for answers in self._behind]

    def is_pair(self, thing):
        """Whether a thing is a pair."""
        if not isinstance(thing, tuple) or len(thing) != 3 or not are_answers(self._one.sheet, thing[2]):
            return False
        if not is_goal(thing[0], len(self._one_points)) or not is_goal(thing[1], len(self._other_points)):
            return False
        return thing[2] in self._behind

    def moves(self, pair):
        """The moves of both points of a pair."""
        return self._one.move(pair[0], pair[2]), self._other.move(pair[1], pair[2])

    def agree(self, pair):
        """Whether the moves of both points of a pair show the same."""
        first, second = self.moves(pair)
        return first[:2] == second[:2]

    def turns(self, pair):
        """The tuples (turn, pair) of what comes behind a pair whose moves show the same."""
        first, second = self.moves(pair)
        if first[0] != "do":
            return []
        found = []
        for outcome, goal in self._one_points[first[2]][2]:
            beside = goal_by(self._other_points, second[2], outcome)
            for later in self._behind[pair[2]][(first[1], outcome)]:
                found.append(((first[1], outcome, later), (goal, beside, later)))
        return found

    def search(self, begins):
        """How each pair is come to first, with fewer turns first, and the first one that does not agree, or None."""
        order, at = list(begins), 0
        former = {begin: None for begin in order}
        while at < len(order):
            pair = order[at]
            if not self.agree(pair):
                return former, pair
            for turn, later in self.turns(pair):
                if later not in former:
                    former[later] = (pair, turn)
                    order.append(later)
            at += 1
        return former, None


def pairs(one, other):
    """The least closed list of pairs, or None if there is none."""
    both = Both(one, other)
    former, parted = both.search(both.begins())
    return sorted(former) if parted is None else None


def are_pairs(one, other, thing):
    """Whether a thing is a closed list of pairs."""
    both = Both(one, other)
    if not isinstance(thing, list) or not all([both.is_pair(pair) for pair in thing]):
        return False
    there = {pair: True for pair in thing}
    if len(there) != len(thing) or not all([pair in there for pair in both.begins()]):
        return False
    for pair in thing:
        if not both.agree(pair) or not all([later in there for _, later in both.turns(pair)]):
            return False
    return True


def show_same(one, other):
    """Whether two machines show the same."""
    return parting(one, other) is None


def parting(one, other):
    """A shortest trace by which two machines show unlike things, or None if they show the same."""
    return parting_from(one, other, can_be(one.sheet))


def parting_from(one, other, some):
    """A shortest trace, begun by some answers, by which two machines show unlike things, or None."""
    former, parted = Both(one, other).search([(0, 0, answers) for answers in some])
    return None if parted is None else trace_back(former, parted)


def is_parting(one, other, thing):
    """Whether a thing is a trace along which two machines go and by which they show unlike things."""
    if one.sheet != other.sheet:
        raise Unlike()
    return one.goes_along(thing) and other.goes_along(thing) and one.shows(thing) != other.shows(thing)


def alike_points(one, point, other, answers):
    """The ascending list of the points of other that show, at answers, the same as a point of one."""
    if one.sheet != other.sheet:
        raise Unlike()
    graph = graph_of(one, [(point, answers)], 0)
    graph.update(graph_of(other, [(beside, answers) for beside in range(len(other))], 1))
    numbers = classes(graph)
    return [beside for beside in range(len(other)) if numbers[(1, beside, answers)] == numbers[(0, point, answers)]]
