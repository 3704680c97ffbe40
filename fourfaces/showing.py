"""What a machine shows turn by turn, and behind tails, remembered for each situation to which it comes."""

from fourfaces.answers import behind_table
from fourfaces.refining import goal_by


class Showing:
    """A machine that is asked again and again what it shows, also behind some tails."""

    def __init__(self, machine, tails):
        self._machine, self._points, self._tails = machine, machine.points(), list(tails)
        self._behind = behind_table(machine.sheet)
        self._moves, self._rows = {}, {}

    def begin(self, answers):
        """The situation in which the machine begins, or None if the answers can't be."""
        return (0, answers) if answers in self._behind else None

    def _move(self, situation):
        """The move in a situation."""
        if situation not in self._moves:
            self._moves[situation] = self._machine.move(situation[0], situation[1])
        return self._moves[situation]

    def shown(self, situation):
        """What the machine shows in a situation."""
        return self._move(situation)[:2]

    def turned(self, situation, turn):
        """The situation to which a turn leads from one, or None if the machine does not go along it."""
        step, outcome, later = turn
        move = self._move(situation)
        if move[0] != "do" or move[1] != step:
            return None
        if later not in self._behind[situation[1]].get((step, outcome), []):
            return None
        return (goal_by(self._points, move[2], outcome), later)

    def next_turns(self, situation):
        """The list of the turns along which the machine can go from a situation."""
        move = self._move(situation)
        if move[0] != "do":
            return []
        behind = self._behind[situation[1]]
        outcomes = [outcome for outcome, goal in self._points[move[2]][2]]
        return [(move[1], outcome, later) for outcome in outcomes for later in behind[(move[1], outcome)]]

    def shown_behind(self, situation, turns):
        """What the machine shows behind turns from a situation on, or None if it does not go along them."""
        for turn in turns:
            situation = self.turned(situation, turn)
            if situation is None:
                return None
        return self.shown(situation)

    def row(self, situation):
        """The tuple of what the machine shows behind each tail."""
        if situation not in self._rows:
            self._rows[situation] = tuple([self.shown_behind(situation, tail) for tail in self._tails])
        return self._rows[situation]
