"""Log books: what is shown by some traces, from which a table is led back."""

from fourfaces.answers import all_answers, are_answers, behind_table, closed_answers, let_table
from fourfaces.errors import NoTrace, Wrong
from fourfaces.sheets import Sheet, is_many
from fourfaces.showing import Showing
from fourfaces.tables import is_shown
from fourfaces.words import is_name
from fourfaces.worlds import trace_fault


def is_turn(sheet, ends, thing):
    """Whether a thing is a turn with any answers of a sheet; ends has the outcomes of its steps."""
    if not isinstance(thing, tuple) or len(thing) != 3 or not is_name(thing[0]) or not is_name(thing[1]):
        return False
    return thing[1] in ends.get(thing[0], ()) and are_answers(sheet, thing[2])


def is_tail(sheet, ends, thing):
    """Whether a thing is a tail."""
    return isinstance(thing, tuple) and all([is_turn(sheet, ends, turn) for turn in thing])


def as_key(trace):
    """A trace as it is told in a log book, with a tuple of turns."""
    return (trace[0], tuple(trace[1]))


def last_answers(key):
    """The answers at the end of a trace."""
    return key[1][-1][2] if key[1] else key[0]


def with_turn(key, turn):
    """A trace with one turn more."""
    return (key[0], key[1] + (turn,))


def are_heads(sheet, behind, thing):
    """Whether a thing is heads of a log book, as far as they show it themselves."""
    if not is_many(thing) or not all([trace_fault(sheet, behind, head) is None for head in thing]):
        return False
    there = {as_key(head): True for head in thing}
    if len(there) != len(thing) or not all([(answers, ()) in there for answers in behind]):
        return False
    return all([turns == () or (answers, turns[:-1]) in there for answers, turns in there])


def are_tails(sheet, thing):
    """Whether a thing is tails of a log book."""
    ends = {step: outcomes for step, _, outcomes in sheet.steps()}
    if not is_many(thing) or not all([is_tail(sheet, ends, tail) for tail in thing]):
        return False
    there = {tail: True for tail in thing}
    return len(there) == len(thing) and () in there and all([tail[1:] in there for tail in thing])


def next_turns(sheet):
    """For each answers of a sheet and each step a dict from the turns with which it lets go on."""
    table, found = let_table(sheet), {}
    can = {answers: True for answers in closed_answers(sheet, table)}
    for answers in all_answers(sheet):
        for step, _, outcomes in sheet.steps():
            ends = [(outcome, later) for outcome in outcomes for later in table[(answers, step, outcome)]]
            found[(answers, step)] = {(step, outcome, later): True for outcome, later in ends if later in can}
    return found


def longest_ahead(tails, tail):
    """The longest of the tails that a longer one begins with."""
    return max([other for other in tails if len(other) < len(tail) and tail[:len(other)] == other], key=len)


class Shown:
    """What is told to be shown by a log book, and whether it can be."""

    def __init__(self, sheet, heads, tails, shown):
        self._sheet, self._shown, self._turns = sheet, shown, next_turns(sheet)
        self._heads = {as_key(head): True for head in heads}
        self._tails = list(tails)
        self._place = {tail: at for at, tail in enumerate(tails)}
        self._ahead = {tail: longest_ahead(tails, tail) for tail in tails if tail != ()}

    def nexts(self, answers, told):
        """The turns with which a trace goes on that ends by answers and by which something is told to be shown."""
        if told is None or told[0] != "do":
            return {}
        return self._turns[(answers, told[1])]

    def _nexts_of(self, key):
        """The turns with which a key goes on."""
        return self.nexts(last_answers(key), self._shown[key][self._place[()]])

    def _is_row(self, thing):
        """Whether a thing tells something, or None, for each tail."""
        if not isinstance(thing, tuple) or len(thing) != len(self._tails):
            return False
        return all([told is None or is_shown(self._sheet, told) for told in thing])

    def _are_forms(self):
        """Whether all keys are traces with a tuple of turns, and all that they lead to is rows."""
        ends = {step: outcomes for step, _, outcomes in self._sheet.steps()}
        for key in self._shown:
            if not isinstance(key, tuple) or len(key) != 2 or not are_answers(self._sheet, key[0]):
                return False
            if not is_tail(self._sheet, ends, key[1]) or not self._is_row(self._shown[key]):
                return False
        return True

    def _are_keys(self):
        """Whether the keys are the heads and their next traces, each head being a next trace or a begin."""
        wanted = {}
        for head in self._heads:
            if head not in self._shown:
                return False
            wanted[head] = True
            for turn in self._nexts_of(head):
                wanted[with_turn(head, turn)] = True
        for answers, turns in self._heads:
            if turns != () and turns[-1] not in self._nexts_of((answers, turns[:-1])):
                return False
        return len(wanted) == len(self._shown) and all([key in self._shown for key in wanted])

    def _is_head_right(self, key):
        """Whether a head tells by each tail what its next trace does by the rest of it."""
        turns, row = self._nexts_of(key), self._shown[key]
        for tail in self._ahead:
            told = row[self._place[tail]]
            if tail[0] not in turns:
                if told is not None:
                    return False
            elif told != self._shown[with_turn(key, tail[0])][self._place[tail[1:]]]:
                return False
        return True

    def _is_next_right(self, key):
        """Whether a key that is no head tells by its tails what can be shown behind one another.

        The longest shorter trace that is told is enough for each: it is told None already where a still
        shorter one has no such turn.
        """
        row = self._shown[key]
        for tail in self._ahead:
            told, shorter = row[self._place[tail]], self._ahead[tail]
            answers = shorter[-1][2] if shorter else last_answers(key)
            if tail[len(shorter)] not in self.nexts(answers, row[self._place[shorter]]):
                if told is not None:
                    return False
            elif told is None and len(tail) == len(shorter) + 1:
                return False
        return True

    def is_right(self):
        """Whether all that is told is as it must be."""
        if not isinstance(self._shown, dict) or not self._are_forms() or not self._are_keys():
            return False
        for key in self._shown:
            if self._shown[key][self._place[()]] is None:
                return False
            if not (self._is_head_right(key) if key in self._heads else self._is_next_right(key)):
                return False
        return True


class LogBook:
    """Heads, tails, and what is shown by the traces that they make."""

    def __init__(self, sheet, heads, tails, shown):
        if not isinstance(sheet, Sheet):
            raise Wrong(0)
        behind = behind_table(sheet)
        if not are_heads(sheet, behind, heads):
            raise Wrong(1)
        if not are_tails(sheet, tails):
            raise Wrong(2)
        if not Shown(sheet, heads, tails, shown).is_right():
            raise Wrong(3)
        self._sheet, self._behind = sheet, behind
        self._heads = {as_key(head): True for head in heads}
        self._tails = list(tails)
        self._shown = {key: shown[key] for key in sorted(shown)}
        self._empty = self._tails.index(())
        self._turns = next_turns(sheet)
        # the same whatever the order of heads and tails is
        order = sorted(range(len(self._tails)), key=lambda at: self._tails[at])
        self._same_heads, self._same_tails = sorted(self._heads), [self._tails[at] for at in order]
        self._same_rows = {key: tuple([self._shown[key][at] for at in order]) for key in self._shown}

    def __eq__(self, other):
        return (isinstance(other, LogBook) and self._sheet == other._sheet and self._same_heads == other._same_heads
                and self._same_tails == other._same_tails and self._same_rows == other._same_rows)

    @property
    def sheet(self):
        """The Sheet."""
        return self._sheet

    def heads(self):
        """The list of the heads, with tuples of turns."""
        return list(self._heads)

    def tails(self):
        """The list of the tails."""
        return list(self._tails)

    def traces(self):
        """The ascending list of the heads and their next traces."""
        return list(self._shown)

    def row(self, trace):
        """The tuple of what is shown by a head, or a next trace of one, with each tail."""
        if trace_fault(self._sheet, self._behind, trace) is not None or as_key(trace) not in self._shown:
            raise NoTrace(0)
        return self._shown[as_key(trace)]

    def lot(self, key):
        """What two traces have in common if and only if they are like: the last answers and the row."""
        return (last_answers(key), self._shown[key])

    def shown(self, key):
        """What is shown by a head or a next trace of one."""
        return self._shown[key][self._empty]

    def turns_behind(self, key):
        """The ascending list of the turns with which a trace goes on."""
        told = self.shown(key)
        return sorted(self._turns[(last_answers(key), told[1])]) if told[0] == "do" else []

    def _next_lots(self, head):
        """For each turn with which a head goes on what the next trace has in common with those like it."""
        return {turn: self.lot(with_turn(head, turn)) for turn in self.turns_behind(head)}

    def gap(self):
        """None if the book is whole, otherwise the first key like no head, or the first heads that are split."""
        lots = {}
        for head in sorted(self._heads):
            lots.setdefault(self.lot(head), []).append(head)
        for key in self._shown:
            if self.lot(key) not in lots:
                return ("open", key)
        # heads that are all like: if any two are split, the least one is split from another one
        splits = [self._split(lots[lot]) for lot in lots if len(lots[lot]) > 1]
        return min([split for split in splits if split is not None], default=None)

    def _split(self, some):
        """The first split of the least one of some heads that are like from another one, or None."""
        one = self._next_lots(some[0])
        for head in some[1:]:
            other = self._next_lots(head)
            parted = [turn for turn in one if one[turn] != other[turn]]
            if parted:
                return ("split", some[0], head, parted[0])
        return None

    def agrees(self, machine):
        """Whether each thing shown is what a machine shows."""
        showing, stands = Showing(machine, self._tails), {}
        for key in sorted(self._shown, key=lambda trace: len(trace[1])):
            answers, turns = key
            if turns == ():
                stands[key] = showing.begin(answers)
            else:
                stands[key] = showing.turned(stands[(answers, turns[:-1])], turns[-1])
            if stands[key] is None or showing.row(stands[key]) != self._shown[key]:
                return False
        return True
