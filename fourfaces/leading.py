"""Leading back: the rows of which a program has just a machine."""

from fourfaces.errors import NoTree, TooMany, Unknown
from fourfaces.laying import machine_of
from fourfaces.programs import Program
from fourfaces.rings import crossing, goals_on, in_row, leads_back, passed
from fourfaces.rows import are_rows, depth
from fourfaces.words import LETTERS

END = ("end",)
ENDS = ("out", "round")


def label_of(kind, point):
    """A label for the loop, or for the block, of a point: no two of them are alike."""
    letters = ""
    while point > 0 or letters == "":
        letters = LETTERS[point % len(LETTERS)] + letters
        point //= len(LETTERS)
    return kind + letters


class Tree:
    """The rows of a machine without a crossing, each point once.

    The rows of a point have all points that only roads through it come to. They never end by ("on",). A
    point to which one other leads alone has its rows there; a merged one, to which several lead, has them
    behind a block, which those leave; one to which some lead back has them in a loop, which those begin anew.
    """

    def __init__(self, machine):
        self._points = machine.points()
        self._back = {edge: True for edge in leads_back(machine)}
        goals = goals_on(machine)
        ends = [goal for some in goals for goal in some]
        self._merged = [row[0] not in ENDS and ends.count(at) > 1 for at, row in enumerate(self._points)]
        self._held = self._blocks(passed(machine))
        self._rows = {}
        # a point stands behind all that lead to it, so from the last one on all rows within are there
        order = in_row(goals)
        self._order = {point: at for at, point in enumerate(order)}
        for point in reversed(order):
            if self._points[point][0] not in ENDS:
                self._rows[point] = self._rows_from(point)

    def _blocks(self, ways):
        """For each point the merged ones whose blocks it holds: it is the last one that all roads to them have."""
        held = [[] for _ in ways]
        for point, some in enumerate(ways):
            if self._merged[point]:
                ahead = [other for other in some if other != point]
                held[max(ahead, key=lambda one: len(ways[one]))].append(point)
        return held

    def _rows_from(self, point):
        """The rows of a point, with the blocks and the loop around."""
        rows = self._own_rows(point)
        # a point that leads to another one of them stands ahead of it, so its block is the inner one
        for other in sorted(self._held[point], key=lambda one: self._order[one]):
            rows = (("block", label_of("b", other), rows),) + self._rows[other]
        if any([edge[1] == point for edge in self._back]):
            rows = (("loop", label_of("l", point), rows),)
        return rows

    def _own_rows(self, point):
        """The row of a point, and the rows that go on behind it."""
        row = self._points[point]
        if row[0] == "mark":
            return (row[:2],) + self._led(point, row[2])
        if row[0] == "ask":
            yes, no = self._led(point, row[2]), self._led(point, row[3])
            # what is deeper goes on behind the row, so that rows stand less deep
            if depth(yes) > depth(no):
                return (("if", row[1], (), no),) + yes
            return (("if", row[1], yes, ()),) + no
        cases = [(outcome, self._led(point, goal)) for outcome, goal in row[2]]
        last, rows = max(cases, key=lambda one: depth(one[1]))
        return (("do", row[1], tuple([case for case in cases if case[0] != last])),) + rows

    def _led(self, point, goal):
        """The rows that lead from a point to one behind it."""
        row = self._points[goal]
        if row[0] == "round":
            return (("loop", "r", ()),)
        if row[0] == "out":
            return (("leave", "e"),) if row[1] == END else (row[1],)
        if (point, goal) in self._back:
            return (("again", label_of("l", goal)),)
        if self._merged[goal]:
            return (("leave", label_of("b", goal)),)
        return self._rows[goal]

    def rows(self):
        """The rows of the machine."""
        if self._points[0][0] in ENDS:
            return () if self._points[0] == ("out", END) else self._led(0, 0)
        if ("out", END) in self._points:
            return (("block", "e", self._rows[0]),)
        return self._rows[0]


def tree_of(machine):
    """Rows, without tries and calls, of which a Program has just a machine."""
    crossed = crossing(machine)
    if crossed is not None:
        raise NoTree(crossed)
    return Tree(machine).rows()


def is_tree_of(machine, thing):
    """Whether a thing is rows of which a Program without procedures can be made and has a machine."""
    if not are_rows(thing):
        return False
    try:
        return machine_of(Program(machine.sheet, thing)) == machine
    except (Unknown, TooMany):
        return False
