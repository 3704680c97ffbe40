"""What can have run behind a torn log: how many runs fit, and which points and rows they have."""

from fourfaces.errors import NoRun
from fourfaces.graphs import how_many_ways, leading_part, way_to
from fourfaces.laying import machine_of, places_of
from fourfaces.runs import Web
from fourfaces.torn import Torn


def point_of(place):
    """The point of a place, which is a tuple (node, stand): where a beginning stands, and where in a torn log."""
    return place[0][0]


class Fitting:
    """The beginnings of a machine from which runs are come to that fit a torn log."""

    def __init__(self, machine, watch, torn):
        self._web, self._lost, self._watch = Web(machine), Torn(torn), watch
        self._first = (self._web.first(), self._lost.begin())
        goals, left = {}, [self._first]
        while left:
            place = left.pop()
            if place not in goals:
                goals[place] = self._after(place)
                left.extend(goals[place])
        self._ends = [place for place in goals if self._is_end(place)]
        self._goals = leading_part(goals, self._first, self._ends)

    def _after(self, place):
        """The places behind one, by ascending points."""
        node, stand = place
        row = self._web.row(node)
        if row[0] == "mark" and row[1] in self._watch:
            stand = self._lost.behind(stand, row[1])
        # without a stand no log fits any more
        return [(goal, stand) for goal in self._web.after(node)] if stand else []

    def _is_end(self, place):
        """Whether a run that fits ends at a place."""
        return self._web.is_out(place[0]) and self._lost.is_end(place[1])

    def none_fits(self):
        """Whether no run fits."""
        return not self._goals

    def how_many(self):
        """How many runs fit, or None if there is no end of them."""
        return how_many_ways(self._goals, self._first, self._ends) if self._goals else 0

    def points(self):
        """The ascending list of the points that some run has that fits."""
        return sorted(set([point_of(place) for place in self._goals]))

    def run_without(self, some):
        """The first of the shortest runs that fit and have none of some points, or None if there is none."""
        goals = {}
        for place in self._goals:
            goals[place] = [goal for goal in self._goals[place] if point_of(goal) not in some]
        starts = [self._first] if self._goals and point_of(self._first) not in some else []
        way = way_to(goals, starts, lambda place: self._is_end(place))
        return None if way is None else [point_of(place) for place in way]

    def first_runs(self, many):
        """The list of the first so many runs that fit, shorter ones first, or of all if there are not so many."""
        all_of_them = self.how_many()
        wanted = many if all_of_them is None else min(many, all_of_them)
        levels, found, length = Levels(self._goals, self._ends), [], 1
        while len(found) < wanted:
            found.extend(levels.ways(self._first, length, wanted - len(found)))
            length += 1
        return found


class Levels:
    """From which places of a graph an end is come to by ways of just so many places."""

    def __init__(self, goals, ends):
        self._goals = goals
        self._levels = [{place: True for place in ends}]

    def _level(self, length):
        """The places from which ways of just so many places lead to an end."""
        while len(self._levels) < length:
            last = self._levels[-1]
            places = [place for place in self._goals if any([goal in last for goal in self._goals[place]])]
            self._levels.append({place: True for place in places})
        return self._levels[length - 1]

    def ways(self, first, length, many):
        """The points of the first so many ways of just so many places, in the order of Python."""
        if first not in self._level(length):
            return []
        some = [([point_of(first)], first)]
        for rest in range(length - 1, 0, -1):
            level = self._level(rest)
            longer = []
            for points, place in some:
                longer.extend([(points + [point_of(goal)], goal) for goal in self._goals[place] if goal in level])
            # each of them is the begin of one way at least, so no more of them are needed
            some = longer[:many]
        return [points for points, place in some]


def fitting(machine, watch, torn):
    """The beginnings of a machine from which runs are come to that fit a torn log, one run at least."""
    found = Fitting(machine, watch, torn)
    if found.none_fits():
        raise NoRun()
    return found


def count_runs(machine, watch, torn):
    """How many runs fit a torn log, or None if there is no end of them."""
    return Fitting(machine, watch, torn).how_many()


def least_run(machine, watch, torn):
    """The run that fits with the fewest points, of several the first in the order of Python."""
    return fitting(machine, watch, torn).run_without([])


def first_runs(machine, watch, torn, many):
    """The list of the first so many runs that fit, or of all if there are not so many."""
    return Fitting(machine, watch, torn).first_runs(many)


def sure_points(machine, watch, torn):
    """The ascending list of the points that all runs have that fit."""
    found = fitting(machine, watch, torn)
    return [point for point in sorted(set(found.run_without([]))) if found.run_without([point]) is None]


def can_points(machine, watch, torn):
    """The ascending list of the points that some run has that fits."""
    return fitting(machine, watch, torn).points()


def missed_run(machine, watch, torn, point):
    """A shortest run that fits and has not a point, or None if there is none."""
    return Fitting(machine, watch, torn).run_without([point])


def rows_had(program, some):
    """The dict from the addresses of the rows of some points to all points that those rows have."""
    places = places_of(program)
    found = {places[point][1]: [] for point in some if places[point] is not None}
    for point, place in enumerate(places):
        if place is not None and place[1] in found:
            found[place[1]].append(point)
    return found


def sure_rows(program, watch, torn):
    """The ascending list of the addresses of the dos, ifs and marks that all runs pass that fit."""
    found = fitting(machine_of(program), watch, torn)
    had = rows_had(program, found.points())
    return [address for address in sorted(had) if found.run_without(had[address]) is None]


def can_rows(program, watch, torn):
    """The ascending list of the addresses of the dos, ifs and marks that some run passes that fits."""
    return sorted(rows_had(program, can_points(machine_of(program), watch, torn)))
