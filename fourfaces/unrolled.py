"""Unrolled: rows, without tries and calls, whose machine shows the same as a table."""

from fourfaces.errors import NoTree
from fourfaces.leading import label_of, tree_of
from fourfaces.tables import machine_from

LAST = "e"


class Unrolled:
    """The rows of a table, each state again on each way to it that has not come to it yet.

    A state that a way has come to already is a loop around, which is begun anew.
    """

    def __init__(self, table):
        self._names, self._begins, self._states = table.sheet.names(), table.begins(), table.states()

    def rows(self):
        """The rows."""
        return (("block", LAST, self._fork(self._begins, 0, [])),)

    def _fork(self, ends, depth, around):
        """The rows that lead, by the asks from a depth on, to the states of tuples (answers, state)."""
        if len(ends) == 1:
            return self._rows_of(ends[0][1], around)
        yes = [end for end in ends if end[0][depth]]
        no = [end for end in ends if not end[0][depth]]
        if not yes or not no:
            return self._fork(ends, depth + 1, around)
        return (("if", self._names[depth], self._fork(yes, depth + 1, around), self._fork(no, depth + 1, around)),)

    def _rows_of(self, state, around):
        """The rows of a state, around being the states whose loops stand around."""
        _, shown, goals = self._states[state]
        label = label_of("l", state)
        if state in around:
            return (("again", label),)
        if shown[0] == "never":
            return (("loop", label, ()),)
        if shown[0] == "out":
            return (("leave", LAST),) if shown[1] == ("end",) else (shown[1],)
        ends = {}
        for outcome, later, goal in goals:
            ends.setdefault(outcome, []).append((later, goal))
        # an outcome that lets none behind it never comes, so it needs no case
        cases = [(outcome, self._fork(ends[outcome], 0, around + [state])) for outcome in sorted(ends)]
        return (("loop", label, (("do", shown[1], tuple(cases)),)),)


def rows_of_table(table):
    """Rows, without tries and calls, whose machine shows the same as a table."""
    try:
        return tree_of(machine_from(table))
    except NoTree:
        return Unrolled(table).rows()
