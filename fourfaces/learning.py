"""Learning: the log books of machines, and the tables that they lead back."""

from fourfaces.errors import NoTable
from fourfaces.logbooks import LogBook, as_key, last_answers, with_turn
from fourfaces.machines import met
from fourfaces.showing import Showing
from fourfaces.tables import Table, least_traces, table_of


def book_of(machine, heads, tails):
    """The LogBook of a machine with some heads, along which it goes, and tails."""
    showing, stands = Showing(machine, tails), {}
    for head in sorted([as_key(head) for head in heads], key=lambda trace: len(trace[1])):
        answers, turns = head
        if turns == ():
            stands[head] = showing.begin(answers)
        for turn in showing.next_turns(stands[head]):
            stands[with_turn(head, turn)] = showing.turned(stands[head], turn)
    return LogBook(machine.sheet, heads, tails, {key: showing.row(stands[key]) for key in stands})


def table_led(book):
    """The Table of a whole book, with a state for each lot of heads that are like."""
    gap = book.gap()
    if gap is not None:
        raise NoTable(gap)
    numbers, some = {}, []
    for head in sorted(book.heads()):
        if book.lot(head) not in numbers:
            numbers[book.lot(head)] = len(some)
            some.append(head)
    turns = [book.turns_behind(head) for head in some]
    goals = [[numbers[book.lot(with_turn(head, turn))] for turn in mine] for head, mine in zip(some, turns)]
    begins = [(key[0], numbers[book.lot(key)]) for key in book.traces() if key[1] == ()]
    # a state ahead of all others, so that the begins are met first
    goals.append([number for answers, number in begins])
    order = met(goals, len(some))[1:]
    place = {number: at for at, number in enumerate(order)}
    states = []
    for number in order:
        led = [(turn[1], turn[2], place[goal]) for turn, goal in zip(turns[number], goals[number])]
        states.append((last_answers(some[number]), book.shown(some[number]), tuple(led)))
    return Table(book.sheet, [(answers, place[number]) for answers, number in begins], states)


class Parting:
    """The states of a table, parted by what is shown behind tails."""

    def __init__(self, table):
        self._states, self._tails = table.states(), [()]
        self._goals = []
        for _, shown, goals in self._states:
            self._goals.append({(shown[1], outcome, later): goal for outcome, later, goal in goals})
        self._rows = [(answers, shown) for answers, shown, _ in self._states]

    def _row_behind(self, state, turn):
        """The row of the state to which a turn leads from one, or None if it leads nowhere."""
        return self._rows[self._goals[state][turn]] if turn in self._goals[state] else None

    def new_tail(self):
        """A tail that parts two states which no tail parts so far, or None if there are no such states."""
        first = {}
        for state, row in enumerate(self._rows):
            other = first.setdefault(row, state)
            for turn in self._goals[state]:
                one, two = self._row_behind(other, turn), self._row_behind(state, turn)
                if one != two:
                    # the first thing of a row is the answers, which the turn tells already
                    at = [place for place in range(1, len(one)) if one[place] != two[place]][0]
                    return (turn,) + self._tails[at - 1]
        return None

    def take(self, tail):
        """Takes in a tail whose rest is one already."""
        place = self._tails.index(tail[1:]) + 1
        self._tails.append(tail)
        behind = [self._row_behind(state, tail[0]) for state in range(len(self._rows))]
        told = [None if row is None else row[place] for row in behind]
        self._rows = [row + (thing,) for row, thing in zip(self._rows, told)]

    def tails(self):
        """The list of the tails."""
        return list(self._tails)


def parting_tails(table):
    """Tails that part all states of a table that has no two states which show the same."""
    parting = Parting(table)
    tail = parting.new_tail()
    while tail is not None:
        parting.take(tail)
        tail = parting.new_tail()
    return parting.tails()


def learned(machine):
    """A whole LogBook of a machine that leads back its least Table."""
    table = table_of(machine)
    return book_of(machine, least_traces(table), parting_tails(table))


def is_learned(machine, thing):
    """Whether a thing is a whole LogBook of a machine that leads back its least Table."""
    if not isinstance(thing, LogBook) or thing.gap() is not None or not thing.agrees(machine):
        return False
    return table_led(thing) == table_of(machine)


def filled(machine, book):
    """A whole LogBook of a machine that has all heads and tails of a book which agrees with it."""
    return with_heads(machine, book, [])


def with_heads(machine, book, heads):
    """A whole LogBook of a machine that has some heads beyond the heads and the tails of a book."""
    # the states of the least table are told apart by its tails, and each one is come to by one of its heads
    whole = learned(machine)
    all_heads = sorted(set(book.heads() + whole.heads() + heads))
    return book_of(machine, all_heads, sorted(set(book.tails() + whole.tails())))


def corrected(machine, book, trace):
    """A whole LogBook of a machine that has, beyond those of a book, a trace and all ahead of it as heads."""
    answers, turns = as_key(trace)
    return with_heads(machine, book, [(answers, turns[:many]) for many in range(len(turns) + 1)])
