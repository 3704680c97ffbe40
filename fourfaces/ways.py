"""Ways: what is reached, by which exits a program ends, and which ways it loses."""

from fourfaces.answers import behind_table
from fourfaces.errors import NoTrace
from fourfaces.laying import Layout
from fourfaces.traces import trace_back


class Search:
    """The situations that a machine reaches, those behind fewer turns first."""

    def __init__(self, machine):
        self._machine, self._points = machine, machine.points()
        self._behind = behind_table(machine.sheet)
        self._order = self.begins()
        self._former = {situation: None for situation in self._order}
        at = 0
        while at < len(self._order):
            situation = self._order[at]
            for done in self.turns(situation):
                if done[3] not in self._former:
                    self._former[done[3]] = (situation, done[2])
                    self._order.append(done[3])
            at += 1

    def begins(self):
        """The list of the situations in which the machine can begin."""
        return [(0, answers) for answers in self._behind]

    def turns(self, situation):
        """What can be done from a situation: tuples (point, index of the goal, turn, situation behind)."""
        point, answers = situation
        move = self._machine.move(point, answers)
        if move[0] != "do":
            return []
        found = []
        for at, (outcome, goal) in enumerate(self._points[move[2]][2]):
            for later in self._behind[answers][(move[1], outcome)]:
                found.append((move[2], at, (move[1], outcome, later), (goal, later)))
        return found

    def order(self):
        """The list of the situations, in the order in which they were found."""
        return list(self._order)

    def trace_to(self, situation):
        """A shortest trace to a situation."""
        return trace_back(self._former, situation)

    def trace_showing(self, shown):
        """A shortest trace by which something is shown that is no step, or None."""
        for point, answers in self._order:
            if self._machine.move(point, answers) == shown:
                return self.trace_to((point, answers))
        return None


def reached(machine):
    """The ascending list of the situations that are reached."""
    return sorted(Search(machine).order())


def moves_reached(machine):
    """The list of the moves in the situations that are reached."""
    return [machine.move(point, answers) for point, answers in reached(machine)]


def exits(machine):
    """The ascending list of the exits that a machine shows by some trace."""
    return sorted(set([move[1] for move in moves_reached(machine) if move[0] == "out"]))


def can_never(machine):
    """Whether a machine goes round without a step, by some trace."""
    return ("never",) in moves_reached(machine)


def exit_trace(machine, told):
    """A shortest trace by which a machine shows an exit, or None."""
    return Search(machine).trace_showing(("out", told))


def never_trace(machine):
    """A shortest trace by which a machine goes round without a step, or None."""
    return Search(machine).trace_showing(("never",))


def lost_from(layout, machine, situation):
    """The list of the losses from a situation on, up to the next step, the exit, or a point that comes anew."""
    point, answers = situation
    points, names, found = machine.points(), machine.sheet.names(), []
    for passed in machine.path_from(point, answers):
        row = points[passed]
        if row[0] == "mark":
            found.extend(layout.lost_by(passed, 0))
        if row[0] == "ask":
            found.extend(layout.lost_by(passed, 0 if answers[names.index(row[1])] else 1))
    return found


def loss_traces(program):
    """A dict from the losses that a program has to shortest traces behind which it has them."""
    layout = Layout(program)
    machine = layout.machine()
    search, found = Search(machine), {}
    lost = {situation: lost_from(layout, machine, situation) for situation in search.order()}
    for situation in search.begins():
        for loss in layout.lost_first() + lost[situation]:
            found.setdefault(loss, (situation[1], []))
    for situation in search.order():
        for point, at, turn, later in search.turns(situation):
            for loss in layout.lost_by(point, at) + lost[later]:
                if loss not in found:
                    answers, turns = search.trace_to(situation)
                    found[loss] = (answers, turns + [turn])
    return found


def losses(program):
    """The ascending list of all losses that a program has."""
    return sorted(loss_traces(program))


def loss_trace(program, loss):
    """A shortest trace behind which a program has a loss, or None."""
    return loss_traces(program).get(loss)


def lost_behind(program, trace):
    """The list of the losses that a program has behind a trace, in order."""
    layout = Layout(program)
    machine = layout.machine()
    at, situation = machine.situation_behind(trace)
    if at is not None:
        raise NoTrace(at)
    turns = list(trace[1])
    if not turns:
        return layout.lost_first() + lost_from(layout, machine, situation)
    _, (point, answers) = machine.situation_behind((trace[0], turns[:-1]))
    done = machine.move(point, answers)[2]
    outcomes = [outcome for outcome, goal in machine.points()[done][2]]
    return layout.lost_by(done, outcomes.index(turns[-1][1])) + lost_from(layout, machine, situation)


def passed_with(machine):
    """The tuples (point, answers) of all points that beginnings pass, and of the answers there."""
    found = {}
    for point, answers in reached(machine):
        for passed in machine.path_from(point, answers):
            found[(passed, answers)] = True
    return list(found)


def idle_rows(program):
    """The ascending list of the addresses of the dos, ifs and marks that no beginning passes."""
    layout = Layout(program)
    places = layout.places()
    seen = {places[point][1]: True for point, answers in passed_with(layout.machine()) if places[point] is not None}
    rows = [address for address in program.addresses() if program.row_at(address)[0] in ("do", "if", "mark")]
    return [address for address in rows if address not in seen]


def known_asks(program):
    """The ascending list of the tuples (address, truth) of ifs that are passed with one answer alone."""
    layout = Layout(program)
    machine, places, found = layout.machine(), layout.places(), {}
    points, names = machine.points(), machine.sheet.names()
    for point, answers in passed_with(machine):
        if points[point][0] == "ask":
            truths = found.setdefault(places[point][1], {})
            truths[answers[names.index(points[point][1])]] = True
    return sorted([(address, list(found[address])[0]) for address in found if len(found[address]) == 1])
