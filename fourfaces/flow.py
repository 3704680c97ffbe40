"""How rows are gone through: from each place to the next ones, with the ways that are lost on the way.

A task is what is to be done next: ("begin", calls, name, body, index, waits), the row of this index in a
body, or ("ended", calls, name, body, way, waits), a body having ended by a way. A body is the path of a
row and the number of one of its bodies, () being all rows of a procedure. ("come", key) ends it: key is
("at", place), ("out", exit) or ("round",).
"""

from fourfaces.rows import bodies

ON = ("on",)


class Flow:
    """The rows of a program, ready to be gone through."""

    def __init__(self, program):
        self._outcomes = {step: outcomes for step, _, outcomes in program.sheet.steps()}
        self._rows = {address: program.row_at(address) for address in program.addresses()}
        self._inner = {("", ()): program.rows()}
        for name, rows in program.procedures().items():
            self._inner[(name, ())] = rows
        for name, path in self._rows:
            for number, inner in enumerate(bodies(self._rows[(name, path)])):
                self._inner[(name, path + (number,))] = inner

    def tasks(self, place):
        """The tasks behind a place, one for each of its goals, in order."""
        calls, (name, path), waits = place
        row = self._rows[(name, path)]
        if row[0] == "if":
            return [("begin", calls, name, path + (number,), 0, waits) for number in (0, 1)]
        behind = ("begin", calls, name, path[:-1], path[-1] + 1, waits)
        if row[0] == "mark":
            return [behind]
        cases = {outcome: number for number, (outcome, rows) in enumerate(row[2])}
        found = []
        for outcome in self._outcomes[row[1]]:
            if outcome in cases:
                found.append(("begin", calls, name, path + (cases[outcome],), 0, waits))
            else:
                found.append(behind)
        return found

    def follow(self, task):
        """The key to which a task comes, and the lists of the losses, and of the addresses come to, on the way."""
        lost, come, begun = [], [], {}
        while task[0] != "come":
            if task[0] == "begin":
                come.extend(self._come_to(task))
                task = self._begin(task, begun)
            else:
                task = self._end(task, lost, begun)
        return task[1], lost, come

    def _come_to(self, task):
        """The list of the address of the row that is to be begun; it is empty behind the last row of a body."""
        name, body, index = task[2:5]
        return [(name, body + (index,))] if index < len(self._inner[(name, body)]) else []

    def _begin(self, task, begun):
        """The task behind the begin of a row, or behind the last row of a body."""
        _, calls, name, body, index, waits = task
        rows = self._inner[(name, body)]
        if index == len(rows):
            return ("ended", calls, name, body, ON, waits)
        row, path = rows[index], body + (index,)
        if row[0] in ("do", "if", "mark"):
            return ("come", ("at", (calls, (name, path), waits)))
        if row[0] == "loop":
            return self._begin_loop(calls, name, path, waits, begun)
        if row[0] in ("block", "try"):
            return ("begin", calls, name, path + (0,), 0, waits)
        if row[0] == "call":
            return ("begin", calls + ((name, path),), row[1], (), 0, waits)
        # any other row is itself the way by which its rows end
        return ("ended", calls, name, body, row, waits)

    def _begin_loop(self, calls, name, path, waits, begun):
        """The task of a loop that is begun, perhaps anew; begun has what was begun since the last place."""
        if (calls, name, path, waits) in begun:
            return ("come", ("round",))
        begun[(calls, name, path, waits)] = True
        return ("begin", calls, name, path + (0,), 0, waits)

    def _end(self, task, lost, begun):
        """The task behind the end of a body."""
        _, calls, name, body, way, waits = task
        if body == ():
            return end_procedure(calls, way, waits)
        path = body[:-1]
        row = self._rows[(name, path)]
        if row[0] == "try":
            return end_part(row, task, lost)
        if row[0] == "loop" and way in (ON, ("again", row[1])):
            return self._begin_loop(calls, name, path, waits, begun)
        if row[0] in ("loop", "block") and way == ("leave", row[1]):
            way = ON
        return end_row(calls, name, path, way, waits)


def end_row(calls, name, path, way, waits):
    """The task behind a row that ended by a way."""
    if way == ON:
        return ("begin", calls, name, path[:-1], path[-1] + 1, waits)
    return ("ended", calls, name, path[:-1], way, waits)


def end_procedure(calls, way, waits):
    """The task behind the rows of a procedure, or of the program, that ended by a way."""
    if calls:
        name, path = calls[-1]
        return end_row(calls[:-1], name, path, way, waits)
    return ("come", ("out", ("end",) if way == ON else way))


def end_part(row, task, lost):
    """The task behind a body of a try: a catch, its always, or what is behind it."""
    _, calls, name, body, way, waits = task
    path, number, last = body[:-1], body[-1], len(row[2]) + 1
    if number == last:
        return end_try(task, lost)
    if number == 0 and way[0] == "raise":
        for at, (errors, _) in enumerate(row[2]):
            if way[1] in errors:
                return ("begin", calls, name, path + (at + 1,), 0, waits)
    return ("begin", calls, name, path + (last,), 0, waits + (way,))


def end_try(task, lost):
    """The task behind the always of a try: the way that waited goes on, or it is lost."""
    _, calls, name, body, way, waits = task
    path, waited = body[:-1], waits[-1]
    if way == ON:
        way = waited
    elif waited != ON:
        lost.append(((name, path), waited, way))
    return end_row(calls, name, path, way, waits[:-1])
