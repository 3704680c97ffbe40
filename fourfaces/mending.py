"""Mending: torn texts of rows, and the fewest lines that are struck or put in so that their blocks close.

A part tells what is still to come: "rows", to the end of the text; "end", rows and an end; "else", rows, an
else, rows and an end; "first", cases and an end; "case", rows, cases and an end; "always", rows, catches with
rows, an always, rows and an end. A key is a tuple (part, begin, end) of a part and lines that are for it.
"""

from fourfaces.notation import text_of
from fourfaces.words import is_integer, is_name

SINGLES = ("do", "mark", "leave", "again", "raise", "stop", "call")
WORDS = ("else", "try", "always", "end")
# what is to come behind the first line of a block
INNER = {"open": "end", "if": "else", "of": "first", "try": "always"}
# those that ask others at the same lines stand behind them
PARTS = ("rows", "end", "first", "case", "else", "always")
ACTS = ("keep", "strike", "end", "else", "always")


def kind_of(line):
    """The kind of a line, or None for a line that no rows have."""
    words = line.split(" ")
    first, rest = words[0], words[1:]
    if first == "catch":
        return "catch" if all([is_name(word) for word in rest]) else None
    if first in WORDS:
        return first if not rest else None
    if first == "do" and len(rest) == 2 and rest[1] == "of":
        return "of" if is_name(rest[0]) else None
    if len(rest) != 1 or not is_name(rest[0]):
        return None
    if first in SINGLES:
        return "single"
    if first in ("loop", "block"):
        return "open"
    return first if first in ("case", "if") else None


def lines_in(text):
    """The list of the lines of a text."""
    return text[:-1].split("\n") if text else []


def kinds_in(text):
    """The list of the kinds of the lines of a text."""
    return [kind_of(line) for line in lines_in(text)]


def part_behind(part, kind):
    """What is to come behind a line that ends rows, or goes on behind them; None if it can't stand there."""
    if kind == "case":
        return "case" if part in ("first", "case") else None
    if kind == "else":
        return "end" if part == "else" else None
    if kind == "always":
        return "end" if part == "always" else None
    return "always" if kind == "catch" and part == "always" else None


def kinds_close(kinds):
    """Whether kinds are those of rows."""
    left = ["rows"]
    for kind in kinds:
        if kind in INNER or kind == "single":
            if left[-1] == "first":
                return False
            if kind in INNER:
                left.append(INNER[kind])
        elif kind == "end":
            if left.pop() not in ("end", "first", "case"):
                return False
        else:
            left[-1] = part_behind(left[-1], kind)
            if left[-1] is None:
                return False
    return left == ["rows"]


def closes(text):
    """Whether the kinds of the lines of a text are those of rows."""
    return kinds_close(kinds_in(text))


def chosen(lines, thing, puts):
    """What of lines a mend keeps, and, in between, what puts has for what it puts in."""
    found, at = [], 0
    for act in thing:
        if act == "keep":
            found.append(lines[at])
        if act in ("keep", "strike"):
            at += 1
        else:
            found.append(puts[act])
    return found


def is_mend(text, thing):
    """Whether a thing is a mend of a text."""
    if not isinstance(thing, list) or not all([isinstance(act, str) and act in ACTS for act in thing]):
        return False
    kinds = kinds_in(text)
    if len([act for act in thing if act in ("keep", "strike")]) != len(kinds):
        return False
    return kinds_close(chosen(kinds, thing, {word: word for word in WORDS}))


def cost(mend):
    """How many lines a mend strikes and puts in."""
    return len([act for act in mend if act != "keep"])


def mended(text, mend):
    """The text of the lines that a mend keeps and puts in."""
    return text_of(chosen(lines_in(text), mend, {word: word for word in WORDS}))


def options(kinds, key):
    """What can be done first at a key: tuples (act, keys), act being None for nothing, keys what is done behind it."""
    part, begin, end = key
    kind = kinds[begin] if begin < end else None
    found = [("strike", [(part, begin + 1, end)])] if begin < end else []
    if kind == "single" and part != "first":
        found.append(("keep", [(part, begin + 1, end)]))
    if kind in INNER and part != "first":
        for place in range(begin + 1, end + 1):
            found.append(("keep", [(INNER[kind], begin + 1, place), (part, place, end)]))
    if part == "rows" and begin == end:
        found.append((None, []))
    if part in ("end", "first", "case"):
        if kind == "end" and end == begin + 1:
            found.append(("keep", []))
        if begin == end:
            found.append(("end", []))
    later = part_behind(part, kind)
    if later is not None:
        found.append(("keep", [(later, begin + 1, end)]))
    if part in ("else", "always"):
        found.append((part, [("end", begin, end)]))
    return found


def price(option, numbers):
    """What an option costs, numbers having what all keys behind it cost."""
    act, keys = option
    return (0 if act in (None, "keep") else 1) + sum([numbers[key] for key in keys])


def keys_of(kinds):
    """The list of all keys of a text, each behind those that it asks."""
    many = len(kinds)
    spans = [(begin, end) for begin in reversed(range(many + 1)) for end in range(begin, many + 1)]
    return [(part, begin, end) for begin, end in spans for part in PARTS]


def numbers_of(kinds):
    """For each key the least that it costs to do what is to come with its lines."""
    numbers = {}
    for key in keys_of(kinds):
        numbers[key] = min([price(option, numbers) for option in options(kinds, key)])
    return numbers


def acts_at(kinds, numbers, key):
    """The acts of a cheapest way at a key."""
    act, keys = [option for option in options(kinds, key) if price(option, numbers) == numbers[key]][0]
    found = [] if act is None else [act]
    for other in keys:
        found.extend(acts_at(kinds, numbers, other))
    return found


def mend(text):
    """A mend of a text that costs the least."""
    kinds = kinds_in(text)
    return acts_at(kinds, numbers_of(kinds), ("rows", 0, len(kinds)))


def fewest(text):
    """What the cheapest mends of a text cost."""
    kinds = kinds_in(text)
    return numbers_of(kinds)[("rows", 0, len(kinds))]


def floor(text):
    """The floor of a text in which each number is as great as can be."""
    numbers = numbers_of(kinds_in(text))
    return {key: numbers[key] for key in sorted(numbers)}


def is_key(thing, many):
    """Whether a thing is a key of a text of so many lines."""
    if not isinstance(thing, tuple) or len(thing) != 3 or not isinstance(thing[0], str) or thing[0] not in PARTS:
        return False
    return is_integer(thing[1]) and is_integer(thing[2]) and 0 <= thing[1] <= thing[2] <= many


def is_floor(text, thing):
    """Whether a thing is a floor of a text."""
    kinds = kinds_in(text)
    keys = keys_of(kinds)
    if not isinstance(thing, dict) or len(thing) != len(keys):
        return False
    if not all([is_key(key, len(kinds)) and is_integer(thing[key]) for key in thing]):
        return False
    return all([thing[key] <= price(option, thing) for key in keys for option in options(kinds, key)])
