"""Shared: pieces for which one procedure can stand."""

from fourfaces.alike import parting_from
from fourfaces.errors import Crosses, Ring, Twice, Unlike
from fourfaces.laying import machine_of
from fourfaces.leading import label_of
from fourfaces.pieces import by_itself, coming, leading_out, rows_of
from fourfaces.programs import Program
from fourfaces.rows import how_many, spliced

LAST = "e"


class Some:
    """Some pieces of a program, by themselves, with the answers that come with them."""

    def __init__(self, program, pieces):
        come = coming(program)
        self._names = program.sheet.names()
        self._rows = [rows_of(program, piece) for piece in pieces]
        self._machines = [machine_of(by_itself(program, rows, {})) for rows in self._rows]
        self._come = [sorted(come.get(piece[0], {})) for piece in pieces]

    def numbers(self):
        """The list of the indexes of the pieces."""
        return list(range(len(self._rows)))

    def _show_same(self, one, other, answers):
        """Whether two pieces show the same from some answers."""
        return parting_from(self._machines[one], self._machines[other], answers) is None

    def are_alike(self, one, other):
        """Whether two pieces show the same from all answers that come with both."""
        return self._show_same(one, other, [answers for answers in self._come[one] if answers in self._come[other]])

    def friends(self):
        """For each piece the list of those that are alike with it, itself too."""
        found = [[at] for at in self.numbers()]
        for at in self.numbers():
            for other in range(at):
                if self.are_alike(at, other):
                    found[at].append(other)
                    found[other].append(at)
        return found

    def fitting(self):
        """For each answers that come with a piece the list of the pieces that show from them what is to be shown."""
        found = {}
        for at in self.numbers():
            for answers in self._come[at]:
                if answers not in found:
                    found[answers] = [other for other in self.numbers() if self._show_same(at, other, [answers])]
        return found

    def weight(self, chosen):
        """How many points the chosen pieces have by themselves, all together."""
        return sum([len(self._machines[at]) for at in chosen])

    def joined(self, chosen, fitting):
        """Rows that do, from each answers, what one of the chosen pieces does that fits then."""
        if len(chosen) == 1:
            return self._rows[chosen[0]]
        rows = self._fork(chosen, fitting, list(fitting), list(range(len(self._names))))
        for at in chosen:
            rows = (("block", label_of("b", at), rows),) + self._rows[at] + (("leave", LAST),)
        return (("block", LAST, rows),)

    def _fork(self, chosen, fitting, some, places):
        """Rows that leave, by the asks at some places, to a chosen piece that fits at some answers."""
        right = [at for at in chosen if all([at in fitting[answers] for answers in some])]
        if right:
            return (("leave", label_of("b", right[0])),)
        forks = []
        for place in places:
            rest = [other for other in places if other != place]
            yes = self._fork(chosen, fitting, [answers for answers in some if answers[place]], rest)
            no = self._fork(chosen, fitting, [answers for answers in some if not answers[place]], rest)
            forks.append((("if", self._names[place], yes, no),))
        return min(forks, key=how_many)


def lots_of(numbers, friends):
    """The list of all ascending lists of numbers that are friends of each other."""
    found = [[]]
    for number in numbers:
        found.extend([lot + [number] for lot in list(found) if all([other in friends[number] for other in lot])])
    return found


def greatest_lots(numbers, friends):
    """The ascending list of the lists of numbers that are friends of each other, but of no further one."""
    found = []
    for lot in lots_of(numbers, friends):
        if not any([at not in lot and all([other in friends[at] for other in lot]) for at in numbers]):
            found.append(lot)
    return sorted(found)


def fewest_of(numbers, lots):
    """How few of some lots have all of some numbers."""
    if not numbers:
        return 0
    some = [lot for lot in lots if numbers[0] in lot]
    return 1 + min([fewest_of([number for number in numbers if number not in lot], lots) for lot in some])


def can_share(program, some):
    """Whether pieces can share a procedure."""
    return all([len(friends) == len(some) for friends in Some(program, some).friends()])


def share_lots(program, some):
    """The ascending list of the greatest lists of indexes of pieces that can share a procedure."""
    pieces = Some(program, some)
    return greatest_lots(pieces.numbers(), pieces.friends())


def fewest_lots(program, some):
    """Into how few lots pieces fall that can each share a procedure."""
    # a part of a lot is one, too, so one that stands in several lots may be left out of all but one
    lots = share_lots(program, some)
    return fewest_of(list(range(len(some))), lots)


def choices(pieces, fitting):
    """The list of the least lists of pieces of which one fits at all answers that come, those of less weight first."""
    numbers = pieces.numbers()
    some = [lot for lot in lots_of(numbers, [numbers for _ in numbers]) if lot and covers(lot, fitting)]
    # without any answers that come, each piece does by itself
    least = [lot for lot in some if len(lot) == 1 or not any([covers(part, fitting) for part in parts_of(lot)])]
    return sorted(least, key=lambda lot: (pieces.weight(lot), lot))


def parts_of(lot):
    """The list of the lists that lack one of a lot each."""
    return [lot[:at] + lot[at + 1:] for at in range(len(lot))]


def covers(lot, fitting):
    """Whether at all answers that come one of a lot of pieces fits."""
    return all([any([at in fitting[answers] for at in lot]) for answers in fitting])


def with_calls(program, some, name, rows):
    """The Program with a new procedure, and calls of it in the places of some pieces."""
    found = program.procedures()
    found[""] = program.rows()
    # from the last piece on, so that those ahead keep their places
    for (own, path), many in sorted(some, reverse=True):
        found[own] = spliced(found[own], path, many, (("call", name),))
    found[name] = rows
    first = found.pop("")
    return Program(program.sheet, first, found)


def first_ringless(program, some, name, ways):
    """The Program with calls of a new procedure, for the first one of several rows for it that makes no ring."""
    for rows in ways:
        try:
            return with_calls(program, some, name, rows)
        except Ring:
            continue
    # all make rings, so that of the first one tells which procedure stands in one
    return with_calls(program, some, name, ways[0])


def share(program, some, name):
    """A Program with a new procedure that pieces share, and calls of it in their places."""
    crossing = sorted([address for piece in some for address in leading_out(program, piece)])
    if crossing:
        raise Crosses(crossing[0])
    if name in program.procedures():
        raise Twice(name)
    pieces = Some(program, some)
    if any([len(friends) < len(some) for friends in pieces.friends()]):
        raise Unlike()
    fitting = pieces.fitting()
    ways = [pieces.joined(chosen, fitting) for chosen in choices(pieces, fitting)]
    return first_ringless(program, some, name, ways)
