"""Log books, worked out in the plainest way, to compare with."""

import oracle
from fourfaces.sheets import Sheet


def is_name(thing):
    return isinstance(thing, str) and 1 <= len(thing) <= 8 and all("a" <= sign <= "z" for sign in thing)


def are_answers(sheet, thing):
    return isinstance(thing, tuple) and len(thing) == len(sheet.names()) and all(type(part) is bool for part in thing)


def is_turn(sheet, thing):
    if not isinstance(thing, tuple) or len(thing) != 3 or not isinstance(thing[0], str) or not isinstance(thing[1], str):
        return False
    ends = {name: outcomes for name, _, outcomes in sheet.steps()}
    return thing[0] in ends and thing[1] in ends[thing[0]] and are_answers(sheet, thing[2])


def is_shown(sheet, thing):
    if thing is None:
        return True
    if not isinstance(thing, tuple) or not thing or not isinstance(thing[0], str):
        return False
    if thing[0] == "never":
        return len(thing) == 1
    if len(thing) != 2:
        return False
    if thing[0] == "do":
        return isinstance(thing[1], str) and thing[1] in [row[0] for row in sheet.steps()]
    if thing[0] != "out" or not isinstance(thing[1], tuple) or not thing[1] or not isinstance(thing[1][0], str):
        return False
    if thing[1][0] == "end":
        return len(thing[1]) == 1
    return thing[1][0] in ("raise", "stop") and len(thing[1]) == 2 and is_name(thing[1][1])


class Plain:
    """A log book that may be wrong, and what is wrong of it."""

    def __init__(self, sheet, heads, tails, shown):
        self.sheet, self.heads, self.tails, self.shown = sheet, heads, tails, shown

    def place(self):
        """The place of the first argument that is not as described, or None."""
        if not isinstance(self.sheet, Sheet):
            return 0
        self.ground = oracle.Ground(self.sheet)
        for at, right in ((1, self.heads_right), (2, self.tails_right), (3, self.shown_right)):
            if not right():
                return at
        return None

    def behind(self, answers, step, outcome):
        """All answers behind, also behind those that can't be."""
        return [later for later in oracle.lets(self.sheet, answers, step, outcome) if later in self.ground.can]

    def is_trace(self, thing):
        if not isinstance(thing, tuple) or len(thing) != 2 or not isinstance(thing[1], (list, tuple)):
            return False
        if not are_answers(self.sheet, thing[0]) or thing[0] not in self.ground.can:
            return False
        answers = thing[0]
        for turn in thing[1]:
            if not is_turn(self.sheet, turn) or turn[2] not in self.behind(answers, turn[0], turn[1]):
                return False
            answers = turn[2]
        return True

    def heads_right(self):
        if not isinstance(self.heads, (list, tuple)) or not all(self.is_trace(head) for head in self.heads):
            return False
        self.keys = [(head[0], tuple(head[1])) for head in self.heads]
        if any(self.keys.count(key) > 1 for key in self.keys):
            return False
        if any((answers, ()) not in self.keys for answers in self.ground.can):
            return False
        return all((answers, turns[:-1]) in self.keys for answers, turns in self.keys if turns)

    def tails_right(self):
        if not isinstance(self.tails, (list, tuple)):
            return False
        for tail in self.tails:
            if not isinstance(tail, tuple) or not all(is_turn(self.sheet, turn) for turn in tail):
                return False
        if any(list(self.tails).count(tail) > 1 for tail in self.tails) or () not in self.tails:
            return False
        return all(tail[1:] in self.tails for tail in self.tails if tail)

    def nexts(self, trace, shown):
        """The next traces of a trace by which something is shown."""
        if shown is None or shown[0] != "do":
            return []
        answers, found = (trace[1][-1][2] if trace[1] else trace[0]), []
        for outcome in self.sheet.outcomes(shown[1]):
            for later in self.behind(answers, shown[1], outcome):
                found.append((trace[0], trace[1] + ((shown[1], outcome, later),)))
        return found

    def shown_right(self):
        if not isinstance(self.shown, dict):
            return False
        for key, row in self.shown.items():
            if not isinstance(key, tuple) or len(key) != 2 or not are_answers(self.sheet, key[0]):
                return False
            if not isinstance(key[1], tuple) or not all(is_turn(self.sheet, turn) for turn in key[1]):
                return False
            if not isinstance(row, tuple) or len(row) != len(self.tails) or not all(is_shown(self.sheet, one) for one in row):
                return False
        empty = list(self.tails).index(())
        wanted = set(self.keys)
        for head in self.keys:
            if head not in self.shown:
                return False
            wanted |= set(self.nexts(head, self.shown[head][empty]))
        for head in self.keys:
            shorter = (head[0], head[1][:-1])
            if head[1] and head not in self.nexts(shorter, self.shown[shorter][empty]):
                return False
        return wanted == set(self.shown) and self.told_right()

    def told_right(self):
        told = {}
        for key, row in self.shown.items():
            for tail, one in zip(self.tails, row):
                trace = (key[0], key[1] + tail)
                if told.setdefault(trace, one) != one:
                    return False
        for longer in told:
            if longer[1] == () and told[longer] is None:
                return False
            for many in range(len(longer[1])):
                shorter = (longer[0], longer[1][:many])
                if shorter in told:
                    nexts = self.nexts(shorter, told[shorter])
                    none = told[shorter] is None or (longer[0], longer[1][:many + 1]) not in nexts
                    if none and told[longer] is not None:
                        return False
                    if not none and many == len(longer[1]) - 1 and told[longer] is None:
                        return False
        return True


def last(trace):
    return trace[1][-1][2] if trace[1] else trace[0]


def gap(book):
    """The gap of a log book, by looking at all pairs of traces."""
    shown = {key: book.row(key) for key in book.traces()}
    heads = sorted(book.heads())

    def like(one, other):
        return last(one) == last(other) and shown[one] == shown[other]

    for key in sorted(shown):
        if not any(like(key, head) for head in heads):
            return ("open", key)
    splits = []
    for one in heads:
        for other in heads:
            if one < other and like(one, other):
                for key in shown:
                    if key[0] == one[0] and len(key[1]) == len(one[1]) + 1 and key[1][:-1] == one[1]:
                        if not like(key, (other[0], other[1] + key[1][-1:])):
                            splits.append(("split", one, other, key[1][-1]))
    return min(splits, default=None)


def random_heads(luck, ground, machine, many):
    """Heads along which a machine goes, the ones without turns and some more."""
    found = {(answers, ()): (0, answers) for answers in ground.can}
    for _ in range(many):
        head = luck.choice(sorted(found))
        turns = oracle.turns(ground, machine, found[head])
        if turns:
            turn, situation = luck.choice(turns)
            found[(head[0], head[1] + (turn,))] = situation
    heads = sorted(found)
    luck.shuffle(heads)
    return heads


def random_turn(luck, sheet):
    step, _, outcomes = luck.choice(sheet.steps())
    return (step, luck.choice(outcomes), luck.choice(oracle.all_answers(sheet)))


def random_tails(luck, sheet, many):
    """Different tails with all their rests."""
    found = [()]
    for _ in range(many):
        if sheet.steps():
            tail = (random_turn(luck, sheet),) + luck.choice(found)
            if tail not in found:
                found.append(tail)
    luck.shuffle(found)
    return found


def shown_of(ground, machine, heads, tails):
    """What a machine shows: the dict of a log book."""

    def told(key):
        situation = (0, key[0])
        for turn in key[1]:
            goals = dict(oracle.turns(ground, machine, situation))
            if turn not in goals:
                return None
            situation = goals[turn]
        return oracle.move(machine, *situation)[:2]

    keys = list(heads)
    for head in heads:
        situation = (0, head[0])
        for turn in head[1]:
            situation = dict(oracle.turns(ground, machine, situation))[turn]
        keys += [(head[0], head[1] + (turn,)) for turn, _ in oracle.turns(ground, machine, situation)]
    return {key: tuple(told((key[0], key[1] + tail)) for tail in tails) for key in keys}
