"""Readers: the sheets, rows, programs, machines and traces of which something is the text."""

from fourfaces.errors import NoAsk, NoCell, NoOutcome, NoStep, NoText, Twice, Wrong
from fourfaces.machines import Machine
from fourfaces.mending import INNER, kind_of, lines_in, part_behind
from fourfaces.notation import show_machine, show_sheet, show_trace
from fourfaces.programs import Program
from fourfaces.sheets import Sheet
from fourfaces.words import are_names, is_name

TRUTHS = {"yes": True, "no": False}
DIGITS = "0123456789"
MOST_DIGITS = 9


def is_text(thing):
    """Whether a thing is a string that is empty or ends with a line feed."""
    return isinstance(thing, str) and (thing == "" or thing.endswith("\n"))


def text_lines(text):
    """The list of the lines of a text, any value."""
    if not is_text(text):
        raise NoText(0)
    return lines_in(text)


def is_number(word):
    """Whether a word is a number, without leading zeros and with not too many digits."""
    if not 1 <= len(word) <= MOST_DIGITS or not all([sign in DIGITS for sign in word]):
        return False
    return word == "0" or word[0] != "0"


class Block:
    """A row that is being read, with the bodies that are there so far; the part tells what can come, as in mending."""

    def __init__(self, words, part):
        self._words, self._part = words, part
        self._heads = []
        self._bodies = [] if part == "first" else [[]]

    def takes_rows(self):
        """Whether a row can come."""
        return self._part != "first"

    def take_row(self, row):
        """Takes a row into the last body."""
        self._bodies[-1].append(row)

    def takes(self, kind, words):
        """Whether a line that begins a further body can come; it takes it then."""
        part = part_behind(self._part, kind)
        if part is None:
            return False
        if kind == "case":
            if self._heads and words[1] <= self._heads[-1]:
                return False
            self._heads.append(words[1])
        if kind == "catch":
            if not are_names(tuple(words[1:])):
                return False
            self._heads.append(tuple(words[1:]))
        self._part = part
        self._bodies.append([])
        return True

    def is_whole(self):
        """Whether the end can come."""
        return self._part == "end" or self._part == "case"

    def rows(self):
        """The rows of the last body."""
        return tuple(self._bodies[-1])

    def row(self):
        """The row, all of whose bodies are there."""
        inner = [tuple(body) for body in self._bodies]
        if self._words[0] == "do":
            return ("do", self._words[1], tuple(zip(self._heads, inner)))
        if self._words[0] == "try":
            return ("try", inner[0], tuple(zip(self._heads, inner[1:-1])), inner[-1])
        return (self._words[0], self._words[1]) + tuple(inner)


class RowReader:
    """Rows that are read line for line."""

    def __init__(self):
        self._levels = [Block([], "rows")]

    def takes(self, line):
        """Whether, with a line, what is there still begins a text of rows; it takes the line then."""
        kind, words, block = kind_of(line), line.split(" "), self._levels[-1]
        if kind in INNER or kind == "single":
            if not block.takes_rows():
                return False
            if kind == "single":
                block.take_row(single_row(words))
            else:
                self._levels.append(Block(words, INNER[kind]))
            return True
        if kind == "end":
            if not block.is_whole():
                return False
            self._levels.pop()
            self._levels[-1].take_row(block.row())
            return True
        return block.takes(kind, words)

    def is_closed(self):
        """Whether all blocks are closed."""
        return len(self._levels) == 1

    def rows(self):
        """The rows."""
        return self._levels[0].rows()


def single_row(words):
    """The row of a line that is one by itself."""
    return ("do", words[1], ()) if words[0] == "do" else tuple(words)


class ProgramReader:
    """A program that is read line for line."""

    def __init__(self):
        self._found, self._name, self._reader = {}, None, None

    def takes(self, line):
        """Whether, with a line, what is there still begins a text of a program; it takes the line then."""
        if self._reader is None:
            return self._takes_first(line)
        if line == "end" and self._reader.is_closed():
            self._found[self._name] = self._reader.rows()
            self._reader = None
            return True
        return self._reader.takes(line)

    def _takes_first(self, line):
        """Whether a line begins the program's own rows, or a procedure; it takes the line then."""
        words = line.split(" ")
        if self._name is None:
            if words != ["program"]:
                return False
            self._name = ""
        else:
            if len(words) != 2 or words[0] != "procedure" or not is_name(words[1]) or words[1] <= self._name:
                return False
            self._name = words[1]
        self._reader = RowReader()
        return True

    def is_closed(self):
        """Whether the program's own rows are there, and no part is still to be ended."""
        return self._name is not None and self._reader is None

    def parts(self):
        """The dict from names to rows, those of the program by the empty name."""
        return {name: self._found[name] for name in self._found}


def read_lines(reader, text):
    """Lets a reader take all lines of a text; raises NoText with the first line that it does not take."""
    lines = text_lines(text)
    for at, line in enumerate(lines):
        if not reader.takes(line):
            raise NoText(at)
    if not reader.is_closed():
        raise NoText(len(lines))


def read_rows(text):
    """The rows of which something is the text."""
    reader = RowReader()
    read_lines(reader, text)
    return reader.rows()


def read_program(sheet, text):
    """The Program of a sheet of which something is the text."""
    reader = ProgramReader()
    read_lines(reader, text)
    parts = reader.parts()
    own = parts.pop("")
    return Program(sheet, own, parts)


def fact_in(words):
    """What may be the fact of a line; a word that is no truth comes to be None."""
    if words[0] == "never":
        return ("never", tuple([(ask, TRUTHS.get(word)) for ask, word in zip(words[1::2], words[2::2])]))
    return tuple(words[:-1]) + (TRUTHS.get(words[-1]),)


def read_sheet(text):
    """The Sheet of which something is the text."""
    lines = text_lines(text)
    cells, asks, steps, facts = [], [], [], []
    for line in lines:
        words = line.split(" ")
        if words[0] == "cell":
            cells.extend(words[1:])
        elif words[0] == "ask":
            asks.append(("".join(words[1:2]), words[2:]))
        elif words[0] == "step" and ":" in words:
            place = words.index(":")
            steps.append(("".join(words[1:2]), words[2:place], words[place + 1:]))
        else:
            facts.append(fact_in(words))
    try:
        sheet = Sheet(cells, asks, steps, facts)
    except (Wrong, Twice, NoCell, NoStep, NoOutcome, NoAsk):
        raise NoText(len(lines)) from None
    # whatever else is not as it is written, the order and the blanks too, is not the same then
    if show_sheet(sheet) != text:
        raise NoText(len(lines))
    return sheet


def number_in(word):
    """The number that a word is, or None."""
    return int(word) if is_number(word) else None


def goal_in(word):
    """What may be an outcome and a goal, of a word of a do."""
    outcome, _, goal = word.partition("=")
    return (outcome, number_in(goal))


def point_in(line):
    """What may be the point of a line."""
    words = line.split(" ")
    if words[0] == "do":
        return ("do", "".join(words[1:2]), tuple([goal_in(word) for word in words[2:]]))
    if words[0] == "out":
        return ("out", tuple(words[1:]))
    return tuple(words[:2]) + tuple([number_in(word) for word in words[2:]])


def read_machine(sheet, text):
    """The Machine of a sheet of which something is the text."""
    lines = text_lines(text)
    try:
        machine = Machine(sheet, [point_in(line) for line in lines])
    except Wrong:
        raise NoText(len(lines)) from None
    if show_machine(machine) != text:
        raise NoText(len(lines))
    return machine


def turn_in(words, many):
    """The turn of the words of a line, with so many truths, or None if they are none."""
    truths = tuple([TRUTHS.get(word) for word in words[2:]])
    if len(words) != 2 + many or None in truths or not is_name(words[0]) or not is_name(words[1]):
        return None
    return (words[0], words[1], truths)


def read_trace(text):
    """The trace of which something is the text."""
    lines = [line.split(" ") for line in text_lines(text)]
    if not lines or lines[0][0] != "at":
        raise NoText(len(lines))
    answers = tuple([TRUTHS.get(word) for word in lines[0][1:]])
    turns = [turn_in(words, len(answers)) for words in lines[1:]]
    if None in answers or None in turns:
        raise NoText(len(lines))
    trace = (answers, turns)
    if show_trace(trace) != text:
        raise NoText(len(lines))
    return trace
