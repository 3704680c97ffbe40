"""Versions: the deeds by which a program is changed, as text, tree, machine or log book."""

from fourfaces.answers import can_be
from fourfaces.errors import BadDeed, FaceError, Refused
from fourfaces.laying import machine_of
from fourfaces.leading import tree_of
from fourfaces.learning import table_led
from fourfaces.logbooks import LogBook
from fourfaces.machines import Machine
from fourfaces.programs import Program
from fourfaces.readers import read_program
from fourfaces.rows import are_rows, is_row
from fourfaces.unrolled import rows_of_table
from fourfaces.words import is_fact, is_integer, is_name

KINDS = ("cell", "step", "outcome", "ask", "mark", "label", "error", "stop", "call")
TREE_DEEDS = ("put", "out", "changed", "rows", "without")
# how many parts a deed has behind its first word
MANY = {
    "put": 2, "out": 1, "changed": 2, "rows": 2, "without": 1, "text": 1, "tree": 0, "machine": 1, "log": 1,
    "fact": 1, "forget": 1, "renamed": 3,
}


def is_place(thing):
    """Whether a thing has the form of an address."""
    if not isinstance(thing, tuple) or len(thing) != 2 or not isinstance(thing[0], str):
        return False
    return isinstance(thing[1], tuple) and all([is_integer(part) for part in thing[1]])


def is_renaming(kind, elder, new):
    """Whether these are a kind of names, and two names."""
    return isinstance(kind, str) and kind in KINDS and is_name(elder) and is_name(new)


def are_tree_parts(kind, parts):
    """Whether parts are those of a deed that changes the tree."""
    if kind == "without":
        return is_name(parts[0])
    if kind == "rows":
        return (parts[0] == "" or is_name(parts[0])) and are_rows(parts[1])
    if not is_place(parts[0]):
        return False
    if kind == "put":
        return is_row(parts[1])
    return kind == "out" or are_rows(parts[1])


def is_deed(thing):
    """Whether a thing is a deed by its form."""
    if not isinstance(thing, tuple) or not thing or not isinstance(thing[0], str):
        return False
    kind, parts = thing[0], thing[1:]
    if kind not in MANY or len(parts) != MANY[kind]:
        return False
    if kind in TREE_DEEDS:
        return are_tree_parts(kind, parts)
    if kind == "text":
        return isinstance(parts[0], str)
    if kind == "machine":
        return isinstance(parts[0], tuple)
    if kind == "log":
        return isinstance(parts[0], LogBook)
    if kind == "renamed":
        return is_renaming(parts[0], parts[1], parts[2])
    return kind == "tree" or is_fact(parts[0])


def with_tree(program, deed):
    """The Program behind a deed that changes the tree."""
    if deed[0] == "put":
        return program.put(deed[1], deed[2])
    if deed[0] == "out":
        return program.out(deed[1])
    if deed[0] == "changed":
        return program.changed(deed[1], deed[2])
    return program.without(deed[1]) if deed[0] == "without" else program.with_rows(deed[1], deed[2])


def with_sheet(program, sheet):
    """The Program with another Sheet."""
    return Program(sheet, program.rows(), program.procedures())


def names_of(program, kind):
    """The names of a kind in a program, and in its sheet."""
    sheet = program.sheet
    if kind == "cell":
        return sheet.cells()
    if kind == "ask":
        return sheet.names()
    if kind == "step":
        return [name for name, cells, outcomes in sheet.steps()]
    if kind == "outcome":
        return [outcome for name, cells, outcomes in sheet.steps() for outcome in outcomes]
    return list(program.procedures()) if kind == "call" else program.names_in(kind)


def with_name(program, deed):
    """The Program with another name in the place of one."""
    _, kind, elder, new = deed
    names = names_of(program, kind)
    if elder not in names or new in names:
        raise Refused(deed)
    return program.renamed(kind, {elder: new})


def with_log(program, deed):
    """The Program whose machine shows the same as the table that a log book leads back."""
    if deed[1].sheet != program.sheet:
        raise Refused(deed)
    return Program(program.sheet, rows_of_table(table_led(deed[1])))


def with_fact(program, deed):
    """The Program whose sheet has a fact more."""
    sheet = program.sheet.with_fact(deed[1])
    if not can_be(sheet):
        raise Refused(deed)
    return with_sheet(program, sheet)


def led_by(program, deed):
    """The Program behind a deed."""
    sheet = program.sheet
    if deed[0] in TREE_DEEDS:
        return with_tree(program, deed)
    if deed[0] == "text":
        return read_program(sheet, deed[1])
    if deed[0] == "tree":
        return Program(sheet, tree_of(machine_of(program)))
    if deed[0] == "machine":
        return Program(sheet, tree_of(Machine(sheet, deed[1])))
    if deed[0] == "log":
        return with_log(program, deed)
    if deed[0] == "fact":
        return with_fact(program, deed)
    if deed[0] == "forget":
        return with_sheet(program, sheet.without_fact(deed[1]))
    return with_name(program, deed)


def version_behind(program, deed):
    """The Program behind a deed, any value."""
    if not is_deed(deed):
        raise BadDeed()
    try:
        later = led_by(program, deed)
        machine_of(later)
        return later
    except FaceError:
        raise Refused(deed) from None
