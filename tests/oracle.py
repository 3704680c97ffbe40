"""The definitions of the document, worked out in the plainest way, to compare with."""

from itertools import combinations, product

from fourfaces.sheets import Sheet


def all_answers(sheet):
    return list(product((False, True), repeat=len(sheet.names())))


def answer(sheet, answers, ask):
    return answers[sheet.names().index(ask)]


def forbidden(sheet, answers):
    for fact in sheet.facts():
        if fact[0] == "never" and all(answer(sheet, answers, ask) is truth for ask, truth in fact[1]):
            return True
    return False


def lets(sheet, before, step, outcome):
    puts = {name: cells for name, cells, _ in sheet.steps()}[step]
    kept = [name for name, cells in sheet.asks() if not set(cells) & set(puts)]
    found = []
    for after in all_answers(sheet):
        right = not forbidden(sheet, after)
        right = right and all(answer(sheet, before, ask) is answer(sheet, after, ask) for ask in kept)
        for fact in sheet.facts():
            if fact[:3] == ("after", step, outcome) and answer(sheet, after, fact[3]) is not fact[4]:
                right = False
        if right:
            found.append(after)
    return found


def is_closed_lot(sheet, lot):
    for answers in lot:
        if forbidden(sheet, answers):
            return False
        for step, _, outcomes in sheet.steps():
            if not any(later in lot for outcome in outcomes for later in lets(sheet, answers, step, outcome)):
                return False
    return True


def can_be(sheet):
    """All answers of all closed lots: the greatest one of them."""
    free = all_answers(sheet)
    found = set()
    for many in range(len(free) + 1):
        for lot in combinations(free, many):
            if not set(lot) <= found and is_closed_lot(sheet, lot):
                found |= set(lot)
    return sorted(found)


class Ground:
    """What can be and what comes behind, worked out once for a sheet."""

    def __init__(self, sheet):
        self.sheet = sheet
        self.can = can_be(sheet) if len(sheet.names()) < 3 else by_striking(sheet)
        self.behind = {}
        for before in self.can:
            for step, _, outcomes in sheet.steps():
                for outcome in outcomes:
                    some = [after for after in lets(sheet, before, step, outcome) if after in self.can]
                    self.behind[before, step, outcome] = some


def by_striking(sheet):
    left = [answers for answers in all_answers(sheet) if not forbidden(sheet, answers)]
    while True:
        kept = []
        for answers in left:
            right = True
            for step, _, outcomes in sheet.steps():
                if not any(later in left for outcome in outcomes for later in lets(sheet, answers, step, outcome)):
                    right = False
            if right:
                kept.append(answers)
        if kept == left:
            return left
        left = kept


def move(machine, point, answers):
    points, seen = machine.points(), []
    while True:
        row = points[point]
        if point in seen or row[0] == "round":
            return ("never",)
        seen.append(point)
        if row[0] == "do":
            return ("do", row[1], point)
        if row[0] == "out":
            return ("out", row[1])
        if row[0] == "mark":
            point = row[2]
        else:
            point = row[2] if answer(machine.sheet, answers, row[1]) else row[3]


def turns(ground, machine, situation):
    """The tuples (turn, situation behind) of a situation."""
    point, answers = situation
    told = move(machine, point, answers)
    if told[0] != "do":
        return []
    found = []
    for outcome, goal in machine.points()[told[2]][2]:
        for later in ground.behind[answers, told[1], outcome]:
            found.append(((told[1], outcome, later), (goal, later)))
    return found


def levels(ground, machine):
    """How many turns each situation that is reached takes at least."""
    found = {(0, answers): 0 for answers in ground.can}
    queue = list(found)
    for situation in queue:
        for _, later in turns(ground, machine, situation):
            if later not in found:
                found[later] = found[situation] + 1
                queue.append(later)
    return found


def traces(ground, machine, most):
    """All traces along which a machine goes, with at most so many turns, and the situations behind."""
    found = [((answers, []), (0, answers)) for answers in ground.can]
    queue = list(found)
    for (answers, done), situation in queue:
        if len(done) < most:
            for turn, later in turns(ground, machine, situation):
                one = ((answers, done + [turn]), later)
                found.append(one)
                queue.append(one)
    return found


def alike(ground, one, other):
    """All tuples (p, q, answers) of a point of one and one of other that show the same at answers."""
    left = set()
    for p, q, answers in product(range(len(one)), range(len(other)), ground.can):
        if move(one, p, answers)[:2] == move(other, q, answers)[:2]:
            left.add((p, q, answers))
    while True:
        kept = set()
        for p, q, answers in left:
            first = turns(ground, one, (p, answers))
            second = turns(ground, other, (q, answers))
            if all((a[1][0], b[1][0], a[1][1]) in left for a, b in zip(first, second)):
                kept.add((p, q, answers))
        if kept == left:
            return left
        left = kept


class Halt(Exception):
    """A run of rows is cut off, since it goes round or is long enough."""


class Rows:
    """Does the rows of a program in a world, as the document tells by which ways they end."""

    def __init__(self, program, world, state, most):
        self.program, self.world, self.state, self.left = program, world, state, most
        self.names = program.sheet.names()
        self.events, self.begun, self.silent = [], set(), False

    def run(self):
        """What happened, and the exit: None if it is cut off, ("round",) if it goes round in silence."""
        try:
            way = self.rows("", self.program.rows(), (), (), ())
        except Halt:
            return self.events, ("round",) if self.silent else None
        return self.events, ("end",) if way == ("on",) else way

    def happens(self, event):
        if self.left == 0:
            raise Halt()
        self.left -= 1
        if event[0] != "lost":
            self.begun = set()
        self.events.append(event)

    def rows(self, name, rows, path, calls, waits):
        for index, row in enumerate(rows):
            way = self.row(name, row, path + (index,), calls, waits)
            if way != ("on",):
                return way
        return ("on",)

    def row(self, name, row, path, calls, waits):
        place = (calls, (name, path), waits)
        if row[0] == "mark":
            self.happens(("mark", place, row[1]))
            return ("on",)
        if row[0] == "if":
            truth = self.world.answers(self.state)[self.names.index(row[1])]
            self.happens(("ask", place, truth))
            number = 0 if truth else 1
            return self.rows(name, row[2 + number], path + (number,), calls, waits)
        if row[0] == "do":
            return self.do(name, row, path, calls, waits)
        if row[0] == "block":
            way = self.rows(name, row[2], path + (0,), calls, waits)
            return ("on",) if way == ("leave", row[1]) else way
        if row[0] == "loop":
            return self.loop(name, row, path, calls, waits)
        if row[0] == "call":
            inner = self.program.rows(row[1])
            return self.rows(row[1], inner, (), calls + ((name, path),), waits)
        if row[0] == "try":
            return self.attempt(name, row, path, calls, waits)
        return row

    def do(self, name, row, path, calls, waits):
        outcome, self.state = self.world.lead(self.state, row[1])
        self.happens(("do", (calls, (name, path), waits), (row[1], outcome, self.world.answers(self.state))))
        for number, (end, rows) in enumerate(row[2]):
            if end == outcome:
                return self.rows(name, rows, path + (number,), calls, waits)
        return ("on",)

    def loop(self, name, row, path, calls, waits):
        while True:
            if (calls, name, path, waits) in self.begun:
                self.silent = True
                raise Halt()
            self.begun.add((calls, name, path, waits))
            way = self.rows(name, row[2], path + (0,), calls, waits)
            if way == ("leave", row[1]):
                return ("on",)
            if way not in (("on",), ("again", row[1])):
                return way

    def attempt(self, name, row, path, calls, waits):
        waited = self.rows(name, row[1], path + (0,), calls, waits)
        if waited[0] == "raise":
            for number, (errors, rows) in enumerate(row[2]):
                if waited[1] in errors:
                    waited = self.rows(name, rows, path + (number + 1,), calls, waits)
                    break
        way = self.rows(name, row[3], path + (len(row[2]) + 1,), calls, waits + (waited,))
        if way == ("on",):
            return waited
        if waited != ("on",):
            self.happens(("lost", ((name, path), waited, way)))
        return way


def without_facts(sheet):
    return Sheet(sheet.cells(), sheet.asks(), sheet.steps())
