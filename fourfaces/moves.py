"""Moves: frames that are put from one version of a program to another one, and whether that is safe."""

from fourfaces.answers import are_answers, behind_table
from fourfaces.errors import Unlike, Wrong
from fourfaces.graphs import way_back
from fourfaces.machines import Machine, is_goal
from fourfaces.refining import goal_by


def are_machines(thing):
    """Whether a thing is a list or a tuple of Machines, one at least."""
    if not isinstance(thing, (list, tuple)) or not thing:
        return False
    return all([isinstance(machine, Machine) for machine in thing])


def is_spot(machines, version, point):
    """Whether two things are the number of a machine and one of its points."""
    return is_goal(version, len(machines)) and is_goal(point, len(machines[version]))


def is_move(machines, thing):
    """Whether a thing is a move between machines."""
    if not isinstance(thing, tuple) or len(thing) != 4:
        return False
    return is_spot(machines, thing[0], thing[1]) and is_spot(machines, thing[2], thing[3])


class Yard:
    """Versions of a program, and the moves by which frames may be put from one to another."""

    def __init__(self, machines, moves):
        if not are_machines(machines):
            raise Wrong(0)
        if not isinstance(moves, (list, tuple)) or not all([is_move(machines, move) for move in moves]):
            raise Wrong(1)
        if any([machine.sheet != machines[0].sheet for machine in machines]):
            raise Unlike()
        self._machines, self._moves = list(machines), sorted(set(moves))
        self._sheet, self._behind = machines[0].sheet, behind_table(machines[0].sheet)
        self._points = [machine.points() for machine in machines]

    def machines(self):
        """The list of the Machines."""
        return list(self._machines)

    def moves(self):
        """The ascending list of the moves."""
        return list(self._moves)

    def _first_stands(self):
        """The list of the stands at which frames begin."""
        return [(0, 0, 0, answers) for answers in self._behind]

    def _is_stand(self, thing):
        """Whether a thing is a stand."""
        if not isinstance(thing, tuple) or len(thing) != 4 or not are_answers(self._sheet, thing[3]):
            return False
        if not is_spot(self._machines, thing[0], thing[1]) or not is_goal(thing[2], len(self._machines[0])):
            return False
        return thing[3] in self._behind

    def _is_right(self, stand):
        """Whether a frame at a stand shows what version 0 shows."""
        version, point, true, answers = stand
        return self._machines[version].move(point, answers)[:2] == self._machines[0].move(true, answers)[:2]

    def _gone_on(self, stand):
        """The list of the stands at the goals of a stand's point."""
        version, point, true, answers = stand
        row = self._points[version][point]
        if row[0] == "mark":
            return [(version, row[2], true, answers)]
        if row[0] == "ask":
            yes = answers[self._sheet.names().index(row[1])]
            return [(version, row[2] if yes else row[3], true, answers)]
        move = self._machines[0].move(true, answers)
        if row[0] != "do" or move[:2] != row[:2]:
            return []
        found = []
        for outcome, goal in row[2]:
            beside = goal_by(self._points[0], move[2], outcome)
            found.extend([(version, goal, beside, later) for later in self._behind[answers][(row[1], outcome)]])
        return found

    def _after(self, stand, moves):
        """The list of the stands that come behind one, some moves being made."""
        version, point, true, answers = stand
        moved = [(move[2], move[3], true, answers) for move in moves if move[:2] == (version, point)]
        return self._gone_on(stand) + moved

    def _search(self, moves, is_last):
        """How each stand is come to first by some moves, up to one that is a last one, and this one, or None."""
        order, at = self._first_stands(), 0
        former = {stand: None for stand in order}
        while at < len(order):
            if is_last(order[at]):
                return former, order[at]
            for later in self._after(order[at], moves):
                if later not in former:
                    former[later] = order[at]
                    order.append(later)
            at += 1
        return former, None

    def _right_search(self, moves):
        """The search by some moves, up to a stand that is not right."""
        return self._search(moves, lambda stand: not self._is_right(stand))

    def stands(self):
        """The least closed list of stands, ascending, or None if there is none."""
        former, wrong = self._right_search(self._moves)
        return sorted(former) if wrong is None else None

    def are_stands(self, thing):
        """Whether a thing is a closed list of stands."""
        if not isinstance(thing, list) or not all([self._is_stand(stand) for stand in thing]):
            return False
        there = {stand: True for stand in thing}
        if len(there) != len(thing) or not all([stand in there for stand in self._first_stands()]):
            return False
        for stand in thing:
            if not self._is_right(stand) or not all([later in there for later in self._after(stand, self._moves)]):
                return False
        return True

    def is_safe(self):
        """Whether there is a closed list of stands."""
        return self._right_search(self._moves)[1] is None

    def lapse(self):
        """A shortest list of stands, each behind the former, of which the last one alone is not right, or None."""
        former, wrong = self._right_search(self._moves)
        return None if wrong is None else way_back(former, wrong)

    def is_lapse(self, thing):
        """Whether a thing is a list of stands, each behind the former, of which the last one alone is not right."""
        if not isinstance(thing, list) or not thing or not all([self._is_stand(stand) for stand in thing]):
            return False
        if thing[0] not in self._first_stands() or self._is_right(thing[-1]):
            return False
        for one, other in zip(thing, thing[1:]):
            if not self._is_right(one) or other not in self._after(one, self._moves):
                return False
        return True

    def needless(self):
        """The ascending list of the moves that no frame can make."""
        former, _ = self._search(self._moves, lambda stand: False)
        passed = {stand[:2]: True for stand in former}
        return [move for move in self._moves if move[:2] not in passed]

    def harmless(self):
        """The ascending list of the moves of which each one, by itself, is safe."""
        return [move for move in self._moves if self._right_search([move])[1] is None]
