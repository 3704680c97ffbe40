"""Torn logs: logs of which words were lost, and which logs they may come of."""

from fourfaces.runs import words_along

ONE = "?"
ANY = "*"
MOST_ENTRIES = 10
MOST_ANY = 3


def is_torn(watch, thing):
    """Whether a thing is a torn log of a watch."""
    if not isinstance(thing, (list, tuple)) or len(thing) > MOST_ENTRIES:
        return False
    if not all([isinstance(part, str) and (part in (ONE, ANY) or part in watch) for part in thing]):
        return False
    return list(thing).count(ANY) <= MOST_ANY


class Torn:
    """A torn log that is gone through word by word.

    A stand is the ascending tuple of the numbers of entries up to which the words so far can have come.
    """

    def __init__(self, entries):
        self._entries = list(entries)

    def _spread(self, numbers):
        """The stand with some numbers, and those to which any number of words that are none lead."""
        found, left = {}, list(numbers)
        while left:
            number = left.pop()
            found[number] = True
            if number < len(self._entries) and self._entries[number] == ANY:
                left.append(number + 1)
        return tuple(sorted(found))

    def begin(self):
        """The stand ahead of all words."""
        return self._spread([0])

    def behind(self, stand, word):
        """The stand behind a word."""
        found = []
        for number in stand:
            entry = self._entries[number] if number < len(self._entries) else None
            if entry == ANY:
                found.append(number)
            elif entry in (ONE, word):
                found.append(number + 1)
        return self._spread(found)

    def is_end(self, stand):
        """Whether the words so far fit."""
        return len(self._entries) in stand


def log_fits(watch, torn, log):
    """Whether a log, of words of a watch, comes of a torn log."""
    lost = Torn(torn)
    stand = lost.begin()
    for word in log:
        stand = lost.behind(stand, word)
    return lost.is_end(stand)


def run_fits(machine, watch, torn, run):
    """Whether the log of a run comes of a torn log."""
    return log_fits(watch, torn, words_along(machine, watch, run))


def lesser(watch, one, other):
    """Whether each log, of words of a watch, that comes of one torn log comes of the other one, too."""
    first, second = Torn(one), Torn(other)
    left = [(first.begin(), second.begin())]
    seen = set()
    while left:
        pair = left.pop()
        if first.is_end(pair[0]) and not second.is_end(pair[1]):
            return False
        if pair not in seen:
            seen.add(pair)
            left.extend([(first.behind(pair[0], word), second.behind(pair[1], word)) for word in watch])
    return True
