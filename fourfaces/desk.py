"""Desk: a book that is asked, and changed, by texts."""

from fourfaces.book import Book
from fourfaces.errors import NoCommand, NoText
from fourfaces.laying import machine_of
from fourfaces.mending import fewest
from fourfaces.notation import exit_text, show_machine, show_program, show_sheet, truth_word
from fourfaces.readers import is_number, is_text, read_rows
from fourfaces.versions import is_renaming
from fourfaces.watches import tells_beginnings, tells_runs
from fourfaces.ways import exits, losses
from fourfaces.words import are_names, is_name

OWN = "-"


def parts_of(text):
    """The words of the first line of a text, any value, and the rest behind it, or None without a line feed."""
    if not isinstance(text, str):
        raise NoCommand()
    line, feed, rest = text.partition("\n")
    return line.split(" "), rest if feed else None


def rows_name(word):
    """The name of the rows that a word stands for, or None."""
    if word == OWN:
        return ""
    return word if is_name(word) else None


def place_of(words):
    """The address that two words stand for, whether there is such a row or not, or None."""
    if len(words) != 2 or rows_name(words[0]) is None:
        return None
    numbers = words[1].split(".")
    if not all([is_number(number) for number in numbers]):
        return None
    return (rows_name(words[0]), tuple([int(number) for number in numbers]))


def rows_in(rest):
    """The rows of which a rest is the text, or None."""
    try:
        return read_rows(rest)
    except NoText:
        return None


def lone_deed(words):
    """The deed of the words of a command without a rest, or None."""
    if words == ["tree"]:
        return ("tree",)
    place = place_of(words[1:])
    if words[0] == "out" and place is not None:
        return ("out", place)
    if words[0] == "without" and len(words) == 2 and is_name(words[1]):
        return ("without", words[1])
    if words[0] == "renamed" and len(words) == 4 and is_renaming(words[1], words[2], words[3]):
        return tuple(words)
    return None


def long_deed(words, rest):
    """The deed of the words of a command and the rest behind them, or None."""
    if words == ["text"]:
        return ("text", rest)
    rows, place = rows_in(rest), place_of(words[1:])
    if rows is None:
        return None
    if words[0] == "put" and place is not None and len(rows) == 1:
        return ("put", place, rows[0])
    if words[0] == "changed" and place is not None:
        return ("changed", place, rows)
    if words[0] == "rows" and len(words) == 2 and rows_name(words[1]) is not None:
        return ("rows", rows_name(words[1]), rows)
    return None


def shown_text(program, word):
    """What a command of one word, that asks, returns, or None if it is none."""
    if word == "program":
        return show_program(program)
    if word == "machine":
        return show_machine(machine_of(program))
    if word == "sheet":
        return show_sheet(program.sheet)
    if word == "exits":
        return ", ".join([exit_text(told) for told in exits(machine_of(program))])
    if word == "losses":
        return str(len(losses(program)))
    return str(len(machine_of(program))) if word == "points" else None


def told_text(program, words):
    """What a command that asks about a watch returns, or None if it is none."""
    watch = tuple(words[2:])
    if words[0] != "tells" or not are_names(watch):
        return None
    if words[1:2] == ["runs"]:
        return truth_word(tells_runs(machine_of(program), watch))
    return truth_word(tells_beginnings(machine_of(program), watch)) if words[1:2] == ["beginnings"] else None


class Desk:
    """A Book that is kept, and changed by texts."""

    def __init__(self, program):
        self._book = Book(program)

    def execute(self, text):
        """Does what a text, any value, says, and returns a text."""
        words, rest = parts_of(text)
        deed = lone_deed(words) if rest is None else long_deed(words, rest)
        if deed is not None:
            self._book.do(deed)
            return "done"
        told = self._asked(words) if rest is None else self._asked_with(words, rest)
        if told is None:
            raise NoCommand()
        return told

    def _asked(self, words):
        """What a command without a rest returns that is no deed, or None if there is none such."""
        if words == ["undo"]:
            return self._book.undo()[0]
        if words == ["redo"]:
            return self._book.redo()[0]
        if len(words) == 1:
            return shown_text(self._book.program(), words[0])
        return told_text(self._book.program(), words)

    def _asked_with(self, words, rest):
        """What a command with a rest returns that is no deed, or None if there is none such."""
        return str(fewest(rest)) if words == ["mend"] and is_text(rest) else None

    def book(self):
        """A copy of the Book."""
        return self._book.copied()
