"""Sheets: what is known of cells, asks and steps, and the facts about them."""

from fourfaces.errors import NoAsk, NoCell, NoFact, NoOutcome, NoStep, Twice, Wrong
from fourfaces.words import is_fact, is_name


def is_many(thing):
    """Whether a thing is a list or a tuple."""
    return isinstance(thing, (list, tuple))


def are_some_names(thing):
    """Whether a thing is a list or a tuple of names, in any order."""
    return is_many(thing) and all([is_name(part) for part in thing])


def is_ask(thing):
    """Whether a thing is a tuple of a name and names of cells."""
    return isinstance(thing, tuple) and len(thing) == 2 and is_name(thing[0]) and are_some_names(thing[1])


def is_step(thing):
    """Whether a thing is a tuple of a name, names of cells, and names of outcomes, one at least."""
    if not isinstance(thing, tuple) or len(thing) != 3 or not is_name(thing[0]):
        return False
    return are_some_names(thing[1]) and are_some_names(thing[2]) and len(thing[2]) > 0


def check_forms(cells, asks, steps, facts):
    """Raises Wrong for the first argument that is not as described."""
    if not are_some_names(cells):
        raise Wrong(0)
    if not is_many(asks) or not all([is_ask(row) for row in asks]):
        raise Wrong(1)
    if not is_many(steps) or not all([is_step(row) for row in steps]):
        raise Wrong(2)
    if not is_many(facts) or not all([is_fact(fact) for fact in facts]):
        raise Wrong(3)


def check_once(rows):
    """Raises Twice for the first row whose name a row ahead of it has."""
    seen = set()
    for row in rows:
        if row[0] in seen:
            raise Twice(row[0])
        seen.add(row[0])


def check_cells(rows, cells):
    """Raises NoCell for the first cell of a row that is none of the cells."""
    there = {cell: True for cell in cells}
    for row in rows:
        for cell in row[1]:
            if cell not in there:
                raise NoCell(cell)


def check_fact(fact, asks, steps):
    """Raises the error for the first name of a fact that is not there."""
    if fact[0] == "never":
        named = [ask for ask, truth in fact[1]]
    else:
        named = [fact[3]]
        if fact[1] not in steps:
            raise NoStep(fact[1])
        if fact[2] not in steps[fact[1]][1]:
            raise NoOutcome(fact[2])
    for ask in named:
        if ask not in asks:
            raise NoAsk(ask)


def in_order(names):
    """The ascending tuple of different names."""
    return tuple(sorted(set(names)))


def name_in(names, name):
    """The name that stands in the place of one."""
    return names.get(name, name)


def fact_with(fact, kind, names):
    """A fact with other names of a kind."""
    asks = names if kind == "ask" else {}
    if fact[0] == "never":
        return ("never", tuple(sorted([(name_in(asks, ask), truth) for ask, truth in fact[1]])))
    _, step, outcome, ask, truth = fact
    step = name_in(names if kind == "step" else {}, step)
    outcome = name_in(names if kind == "outcome" else {}, outcome)
    return ("after", step, outcome, name_in(asks, ask), truth)


class Sheet:
    """Cells, asks that look at them, steps that may put them, and facts."""

    def __init__(self, cells, asks, steps, facts=()):
        check_forms(cells, asks, steps, facts)
        check_once(asks)
        check_once(steps)
        check_cells(asks, cells)
        check_cells(steps, cells)
        self._cells = in_order(cells)
        self._asks = {name: in_order(seen) for name, seen in sorted(asks, key=lambda row: row[0])}
        self._steps = {}
        for name, some, outcomes in sorted(steps, key=lambda row: row[0]):
            self._steps[name] = (in_order(some), in_order(outcomes))
        for fact in facts:
            check_fact(fact, self._asks, self._steps)
        self._facts = in_order(facts)

    def __eq__(self, other):
        return (isinstance(other, Sheet) and self._cells == other._cells and self._asks == other._asks
                and self._steps == other._steps and self._facts == other._facts)

    def cells(self):
        """The ascending list of the cells."""
        return list(self._cells)

    def names(self):
        """The ascending list of the names of the asks."""
        return list(self._asks)

    def asks(self):
        """The list of the tuples (name, cells) of the asks, ascending by name."""
        return [(name, self._asks[name]) for name in self._asks]

    def steps(self):
        """The list of the tuples (name, cells, outcomes) of the steps, ascending by name."""
        return [(name, self._steps[name][0], self._steps[name][1]) for name in self._steps]

    def facts(self):
        """The ascending list of the facts."""
        return list(self._facts)

    def looks(self, name):
        """The ascending list of the cells at which an ask looks."""
        if not is_name(name) or name not in self._asks:
            raise NoAsk(name)
        return list(self._asks[name])

    def _step(self, name):
        """The cells and the outcomes of a step."""
        if not is_name(name) or name not in self._steps:
            raise NoStep(name)
        return self._steps[name]

    def puts(self, name):
        """The ascending list of the cells that a step may put."""
        return list(self._step(name)[0])

    def outcomes(self, name):
        """The ascending list of the outcomes of a step."""
        return list(self._step(name)[1])

    def leaves(self, name):
        """The ascending list of the asks that look at no cell which a step may put."""
        put = self._step(name)[0]
        return [ask for ask in self._asks if not any([cell in put for cell in self._asks[ask]])]

    def with_fact(self, fact):
        """The Sheet with a fact, which may be there already."""
        if not is_fact(fact):
            raise Wrong(0)
        return Sheet(self.cells(), self.asks(), self.steps(), self.facts() + [fact])

    def without_fact(self, fact):
        """The Sheet without a fact."""
        if not is_fact(fact) or fact not in self._facts:
            raise NoFact(fact)
        return Sheet(self.cells(), self.asks(), self.steps(), [other for other in self._facts if other != fact])

    def renamed(self, kind, names):
        """The Sheet with other names of a kind in the place of some."""
        cells = names if kind == "cell" else {}
        asks = names if kind == "ask" else {}
        steps = names if kind == "step" else {}
        outcomes = names if kind == "outcome" else {}
        new_asks = [(name_in(asks, name), [name_in(cells, cell) for cell in seen]) for name, seen in self.asks()]
        new_steps = []
        for name, put, ends in self.steps():
            put = [name_in(cells, cell) for cell in put]
            new_steps.append((name_in(steps, name), put, [name_in(outcomes, outcome) for outcome in ends]))
        facts = [fact_with(fact, kind, names) for fact in self._facts]
        return Sheet([name_in(cells, cell) for cell in self._cells], new_asks, new_steps, facts)
