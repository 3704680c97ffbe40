"""Tables: what is shown by each trace, state by state."""

from fourfaces.answers import all_answers, are_answers, behind_table
from fourfaces.errors import NoTrace, Wrong
from fourfaces.machines import Machine, is_goal, met
from fourfaces.refining import classes, goal_by, graph_of
from fourfaces.sheets import Sheet
from fourfaces.traces import follows, opens, trace_back
from fourfaces.words import is_exit, is_integer, is_name


def are_begins(sheet, behind, thing):
    """Whether a thing has an integer for each answers that can be, ascending."""
    if not isinstance(thing, (list, tuple)) or len(thing) != len(behind):
        return False
    for part, answers in zip(thing, list(behind)):
        if not isinstance(part, tuple) or len(part) != 2 or not is_integer(part[1]):
            return False
        if not are_answers(sheet, part[0]) or part[0] != answers:
            return False
    return True


def is_shown(sheet, thing):
    """Whether a thing can be shown: a step, an exit, or that it goes round."""
    if not isinstance(thing, tuple) or len(thing) == 0 or not isinstance(thing[0], str):
        return False
    if thing[0] == "never":
        return len(thing) == 1
    if len(thing) != 2:
        return False
    if thing[0] == "out":
        return is_exit(thing[1])
    return thing[0] == "do" and is_name(thing[1]) and thing[1] in [row[0] for row in sheet.steps()]


def ends_behind(sheet, behind, answers, shown):
    """The ascending list of the outcomes and the answers behind what is shown at answers."""
    if shown[0] != "do":
        return []
    table = behind[answers]
    return [(outcome, later) for outcome in sheet.outcomes(shown[1]) for later in table[(shown[1], outcome)]]


def is_state(sheet, behind, thing, many):
    """Whether a thing is a state among so many, whatever answers its goals have."""
    if not isinstance(thing, tuple) or len(thing) != 3 or not are_answers(sheet, thing[0]):
        return False
    if thing[0] not in behind or not is_shown(sheet, thing[1]) or not isinstance(thing[2], tuple):
        return False
    ends = ends_behind(sheet, behind, thing[0], thing[1])
    if len(thing[2]) != len(ends):
        return False
    for goal, end in zip(thing[2], ends):
        if not isinstance(goal, tuple) or len(goal) != 3 or goal[0] != end[0] or not is_goal(goal[2], many):
            return False
        if not are_answers(sheet, goal[1]) or goal[1] != end[1]:
            return False
    return True


def are_led_right(begins_given, states):
    """Whether each state to which a begin or a goal leads has the answers told there."""
    leads = [(answers, state) for answers, state in begins_given]
    for row in states:
        leads.extend([(answers, state) for _, answers, state in row[2]])
    return all([0 <= state < len(states) and states[state][0] == answers for answers, state in leads])


def are_met_in_order(begins_given, states):
    """Whether the states are numbered as they are met, and all are."""
    # a state ahead of all others, whose goals are the begins
    goals = [[state + 1 for answers, state in begins_given]]
    goals.extend([[goal[2] + 1 for goal in row[2]] for row in states])
    return met(goals, 0) == list(range(len(goals)))


def are_states(sheet, behind, begins_given, thing):
    """Whether a thing is the states of a table with these begins."""
    if not isinstance(thing, (list, tuple)):
        return False
    if not all([is_state(sheet, behind, row, len(thing)) for row in thing]):
        return False
    return are_led_right(begins_given, thing) and are_met_in_order(begins_given, thing)


class Table:
    """States with answers, what is shown there, and the states behind."""

    def __init__(self, sheet, begins, states):
        if not isinstance(sheet, Sheet):
            raise Wrong(0)
        self._behind = behind_table(sheet)
        if not are_begins(sheet, self._behind, begins):
            raise Wrong(1)
        if not are_states(sheet, self._behind, begins, states):
            raise Wrong(2)
        self._sheet = sheet
        self._begins = list(begins)
        self._states = list(states)

    def __eq__(self, other):
        return (isinstance(other, Table) and self._sheet == other._sheet and self._begins == other._begins
                and self._states == other._states)

    def __len__(self):
        return len(self._states)

    @property
    def sheet(self):
        """The Sheet."""
        return self._sheet

    def begins(self):
        """The list of the tuples (answers, state) of the begins."""
        return list(self._begins)

    def states(self):
        """The list of the states."""
        return list(self._states)

    def _turned(self, state, turn):
        """The state to which a turn, any value, leads from one, or None."""
        answers, shown, goals = self._states[state]
        if not follows(self._sheet, self._behind, answers, turn) or shown != ("do", turn[0]):
            return None
        return [goal for outcome, later, goal in goals if (outcome, later) == turn[1:]][0]

    def _state_or_fault(self, thing):
        """A tuple of None and the state to which a trace leads, or of what NoTrace tells, and None."""
        if not opens(self._sheet, self._behind, thing):
            return 0, None
        state = [begin for answers, begin in self._begins if answers == thing[0]][0]
        for at, turn in enumerate(thing[1]):
            state = self._turned(state, turn)
            if state is None:
                return at + 1, None
        return None, state

    def goes_along(self, trace):
        """Whether the table goes along a trace."""
        return self._state_or_fault(trace)[0] is None

    def state_behind(self, trace):
        """The state to which a trace leads."""
        at, state = self._state_or_fault(trace)
        if at is not None:
            raise NoTrace(at)
        return state

    def shows(self, trace):
        """What the table shows by a trace."""
        return self._states[self.state_behind(trace)][1]


def table_of(machine):
    """The Table with the fewest states that shows the same as a machine."""
    sheet, behind = machine.sheet, behind_table(machine.sheet)
    graph = graph_of(machine, [(0, answers) for answers in behind], 0)
    numbers = classes(graph)
    one_of = {numbers[state]: state for state in graph}
    goals = {number: [numbers[later] for later in graph[one_of[number]][1]] for number in one_of}
    # a state ahead of all others, so that the begins are met first
    goals[-1] = [numbers[(0, 0, answers)] for answers in behind]
    order = met(goals, -1)[1:]
    place = {number: at for at, number in enumerate(order)}
    states = []
    for number in order:
        shown, answers = graph[one_of[number]][0]
        ends = ends_behind(sheet, behind, answers, shown)
        led = [(outcome, later, place[goal]) for (outcome, later), goal in zip(ends, goals[number])]
        states.append((answers, shown, tuple(led)))
    return Table(sheet, [(answers, place[numbers[(0, 0, answers)]]) for answers in behind], states)


def is_table_of(machine, thing):
    """Whether a thing is a Table of an equal Sheet that shows the same as a machine."""
    if not isinstance(thing, Table) or thing.sheet != machine.sheet:
        return False
    points, states = machine.points(), thing.states()
    seen = set()
    left = [(0, state) for answers, state in thing.begins()]
    while left:
        point, state = left.pop()
        if (point, state) not in seen:
            seen.add((point, state))
            answers, shown, goals = states[state]
            move = machine.move(point, answers)
            if move[:2] != shown:
                return False
            left.extend([(goal_by(points, move[2], outcome), later) for outcome, _, later in goals])
    return True


def lot_for(lots, shown, leads):
    """The index of the first lot into which a state with these leads can be put, or None."""
    for at, lot in enumerate(lots):
        if lot[0] == shown and all([lot[1].get(end, leads[end]) == leads[end] for end in leads]):
            return at
    return None


def lots_of(table):
    """The states of a table, put together in lots that one point can stand for.

    A lot is a tuple (shown, dict from (outcome, answers) to states, list of its states).
    """
    lots = []
    for state, (_, shown, goals) in enumerate(table.states()):
        mine = {(outcome, later): goal for outcome, later, goal in goals}
        at = lot_for(lots, shown, mine)
        if at is None:
            lots.append((shown, mine, [state]))
        else:
            lots[at][1].update(mine)
            lots[at][2].append(state)
    return lots


class Forks:
    """Points that are made of lots, with the asks by which the states behind are told apart."""

    def __init__(self, table):
        self._sheet = table.sheet
        self._names, self._all = table.sheet.names(), all_answers(table.sheet)
        lots, self._lot = lots_of(table), {}
        for at, lot in enumerate(lots):
            for state in lot[2]:
                self._lot[state] = at
        self._points = [("round",) for _ in lots]
        self._asks = {}
        for at, (shown, leads, _) in enumerate(lots):
            if shown[0] == "do":
                self._points[at] = ("do", shown[1], self._led(at, shown[1], leads))
            elif shown[0] == "out":
                self._points[at] = shown

    def _led(self, at, step, leads):
        """The goals of a do; where an outcome lets none behind it, the do itself is as good as any."""
        found = []
        for outcome in self._sheet.outcomes(step):
            fork = self.fork({later: leads[(end, later)] for end, later in leads if end == outcome})
            found.append((outcome, at if fork is None else fork))
        return tuple(found)

    def fork(self, states):
        """The point that leads, by asks, to the states that answers have, or None if there are none."""
        return self._split([self._lot[states[answers]] if answers in states else None for answers in self._all], 0)

    def _split(self, goals, depth):
        """The point that leads by the asks from a depth on; goals has one for each answers, None for any."""
        told = sorted(set([goal for goal in goals if goal is not None]))
        if len(told) < 2:
            return told[0] if told else None
        half = len(goals) // 2
        no, yes = self._split(goals[:half], depth + 1), self._split(goals[half:], depth + 1)
        if no is None or yes is None or no == yes:
            return yes if no is None else no
        row = ("ask", self._names[depth], yes, no)
        if row not in self._asks:
            self._asks[row] = len(self._points)
            self._points.append(row)
        return self._asks[row]

    def points(self):
        """The list of the points."""
        return list(self._points)


def machine_from(table):
    """A Machine that shows the same as a Table."""
    forks = Forks(table)
    begin = forks.fork({answers: state for answers, state in table.begins()})
    if begin is None:
        return Machine(table.sheet, [("round",)])
    return Machine.made(table.sheet, forks.points(), begin)


def least_traces(table):
    """The list of the least traces that lead to the states."""
    states = table.states()
    # the states are numbered as they are met, so the first way to each is the least one
    former = {(state, answers): None for answers, state in table.begins()}
    for at, (answers, shown, goals) in enumerate(states):
        for outcome, later, goal in goals:
            former.setdefault((goal, later), ((at, answers), (shown[1], outcome, later)))
    return [trace_back(former, (at, row[0])) for at, row in enumerate(states)]
