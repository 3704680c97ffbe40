"""Playing: runs of a machine in a world, what they write, and their traces."""

from fourfaces.refining import goal_by


class Play:
    """A run of a machine in a world, from a state on, up to where it ends or comes to what it did already."""

    def __init__(self, machine, world, state):
        self._machine, self._world, self._points = machine, world, machine.points()
        self._passed, self._turns, self._stood, self._told = [], [], {}, None
        point = 0
        while self._told is None:
            point, state = self._go_on(point, state)

    def _go_on(self, point, state):
        """Goes on up to the next step and behind it, or finds the end; returns the point and the state there."""
        answers = self._world.answers(state)
        self._passed.extend(self._machine.path_from(point, answers))
        move = self._machine.move(point, answers)
        if move[0] != "do":
            self._told = move
            return point, state
        stand = (move[2], state)
        if stand in self._stood:
            self._told = ("ring", self._stood[stand])
            return point, state
        self._stood[stand] = len(self._turns)
        outcome, later = self._world.lead(state, move[1])
        self._turns.append((move[1], outcome, later))
        return goal_by(self._points, move[2], outcome), later

    def turns(self):
        """The list of the turns, with the states behind."""
        return list(self._turns)

    def told(self):
        """By what it ends: an exit, going round without a step, or a ring of turns."""
        return self._told

    def words(self):
        """The list of the words of the marks that it passes."""
        rows = [self._points[point] for point in self._passed]
        return [row[1] for row in rows if row[0] == "mark"]


def played(machine, world, state):
    """The turns of a run of a machine from a state of a world, and by what it ends."""
    play = Play(machine, world, state)
    return (play.turns(), play.told())


def written(machine, world, state):
    """The list of the words of the marks that a run passes, in order."""
    return Play(machine, world, state).words()


def trace_of(machine, world, state):
    """The trace of the turns of a run."""
    turns = Play(machine, world, state).turns()
    return (world.answers(state), [(step, outcome, world.answers(later)) for step, outcome, later in turns])
