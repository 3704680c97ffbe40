"""Worlds: tables of states, and the traces of a sheet."""

from fourfaces.answers import are_answers, behind_table, is_forbidden, let_table
from fourfaces.errors import NoTrace, Wrong
from fourfaces.sheets import Sheet
from fourfaces.traces import follows, opens
from fourfaces.words import is_integer, is_name


def is_lead(thing, outcomes, many):
    """Whether a thing is a tuple of one of the outcomes and one of so many states."""
    if not isinstance(thing, tuple) or len(thing) != 2 or not is_name(thing[0]) or thing[0] not in outcomes:
        return False
    return is_integer(thing[1]) and 0 <= thing[1] < many


def are_leads(sheet, thing, many):
    """Whether a thing is a dict that leads each step of a sheet to one of so many states."""
    steps = sheet.steps()
    if not isinstance(thing, dict) or len(thing) != len(steps):
        return False
    return all([row[0] in thing and is_lead(thing[row[0]], row[2], many) for row in steps])


def is_state(sheet, thing, many):
    """Whether a thing is a state of a world of a sheet with so many states."""
    if not isinstance(thing, tuple) or len(thing) != 2:
        return False
    return are_answers(sheet, thing[0]) and are_leads(sheet, thing[1], many)


class World:
    """States with answers, from each of which each step leads to an outcome and a state."""

    def __init__(self, sheet, states):
        if not isinstance(sheet, Sheet):
            raise Wrong(0)
        if not isinstance(states, (list, tuple)):
            raise Wrong(1)
        if not all([is_state(sheet, state, len(states)) for state in states]):
            raise Wrong(1)
        self._sheet = sheet
        steps = [row[0] for row in sheet.steps()]
        self._states = [(answers, {step: leads[step] for step in steps}) for answers, leads in states]

    def __eq__(self, other):
        return isinstance(other, World) and self._sheet == other._sheet and self._states == other._states

    def __len__(self):
        return len(self._states)

    @property
    def sheet(self):
        """The Sheet."""
        return self._sheet

    def states(self):
        """The list of the states, each its answers and a dict of its leads."""
        return [(answers, {step: leads[step] for step in leads}) for answers, leads in self._states]

    def answers(self, state):
        """The answers of a state."""
        return self._states[state][0]

    def lead(self, state, step):
        """The outcome and the state to which a step leads from a state."""
        return self._states[state][1][step]

    def keeps(self):
        """Whether it keeps its sheet."""
        return self.broken() is None

    def broken(self):
        """The first thing by which it does not keep its sheet, or None."""
        for state, (answers, _) in enumerate(self._states):
            if is_forbidden(self._sheet, answers):
                return ("forbidden", state)
        table = let_table(self._sheet)
        for state, (answers, leads) in enumerate(self._states):
            for step in leads:
                outcome, later = leads[step]
                if self.answers(later) not in table[(answers, step, outcome)]:
                    return ("lead", state, step)
        return None


def first_leads(sheet, behind, answers, first):
    """Leads from answers that can be to a whole world whose states begin at a number."""
    places, leads = list(behind), {}
    for step, _, outcomes in sheet.steps():
        some = [outcome for outcome in outcomes if behind[answers][(step, outcome)]]
        later = behind[answers][(step, some[0])][0]
        leads[step] = (some[0], first + places.index(later))
    return leads


def whole_states(sheet, behind, first):
    """The states of a whole world whose numbers begin with one."""
    return [(answers, first_leads(sheet, behind, answers, first)) for answers in behind]


def whole_world(sheet):
    """A World that keeps the sheet, with one state for each answers that can be."""
    return World(sheet, whole_states(sheet, behind_table(sheet), 0))


def trace_fault(sheet, behind, thing):
    """None for a trace of a sheet, otherwise the number that NoTrace tells of it."""
    if not opens(sheet, behind, thing):
        return 0
    answers = thing[0]
    for at, turn in enumerate(thing[1]):
        if not follows(sheet, behind, answers, turn):
            return at + 1
        answers = turn[2]
    return None


def trace_world(sheet, trace):
    """A World that keeps the sheet and leads along a trace, from its state 0 on."""
    behind = behind_table(sheet)
    fault = trace_fault(sheet, behind, trace)
    if fault is not None:
        raise NoTrace(fault)
    first, answers, states = len(trace[1]) + 1, trace[0], []
    for at, (step, outcome, later) in enumerate(trace[1]):
        leads = first_leads(sheet, behind, answers, first)
        leads[step] = (outcome, at + 1)
        states.append((answers, leads))
        answers = later
    states.append((answers, first_leads(sheet, behind, answers, first)))
    return World(sheet, states + whole_states(sheet, behind, first))


def is_trace(sheet, thing):
    """Whether a thing is a trace of a sheet."""
    return trace_fault(sheet, behind_table(sheet), thing) is None
