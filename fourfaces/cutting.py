"""Cutting: pieces that show the same as others, and pieces that are cut out as procedures, or put back."""

from fourfaces.alike import parting_from
from fourfaces.answers import can_be
from fourfaces.errors import Crosses, NoCall, NoRow, Twice
from fourfaces.laying import machine_of
from fourfaces.pieces import by_itself, check_piece, comes_with, coming, leading_out, rows_of, stops_for
from fourfaces.programs import Program, called_from
from fourfaces.rows import names_in, spliced


def parted(program, first, second, some):
    """A shortest trace, begun by some answers, by which two rows by themselves show unlike things, or None."""
    taken = program.names_in("stop") + names_in(first, "stop") + names_in(second, "stop")
    stops = stops_for([first, second], taken)
    one, other = [machine_of(by_itself(program, rows, stops)) for rows in (first, second)]
    return parting_from(one, other, some)


def alike_everywhere(program, one, other):
    """Whether two pieces show the same from all answers that can be."""
    first, second = rows_of(program, one), rows_of(program, other)
    return parted(program, first, second, can_be(program.sheet)) is None


def alike_here(program, one, other):
    """Whether two pieces show the same from all answers that come with both."""
    return parting_here(program, one, other) is None


def parting_here(program, one, other):
    """A shortest trace, begun by answers that come with two pieces, by which they show unlike things, or None."""
    first, second = rows_of(program, one), rows_of(program, other)
    come = coming(program)
    some = [answers for answers in sorted(come.get(one[0], {})) if answers in come.get(other[0], {})]
    return parted(program, first, second, some)


def stands_for(program, piece, rows):
    """Whether rows show the same as a piece from all answers that come with it."""
    return parted(program, rows_of(program, piece), rows, comes_with(program, piece)) is None


def exchanged(program, piece, rows):
    """The Program with rows in the place of a piece."""
    check_piece(program, piece)
    (name, path), many = piece
    return program.with_rows(name, spliced(program.rows(name), path, many, rows))


def cut_out(program, piece, name):
    """The Program with a new procedure, the rows of a piece, and a call of it in their place."""
    rows = rows_of(program, piece)
    crossing = leading_out(program, piece)
    if crossing:
        raise Crosses(crossing[0])
    if name in program.procedures():
        raise Twice(name)
    return exchanged(program.with_rows(name, rows), piece, (("call", name),))


def put_back(program, address):
    """The Program with the rows of a procedure in the place of a call."""
    try:
        row = program.row_at(address)
    except NoRow:
        raise NoCall(address) from None
    if row[0] != "call":
        raise NoCall(address)
    return program.changed(address, program.rows(row[1]))


def idle_procedures(program):
    """The ascending list of the procedures to which no calls lead from the program's own rows."""
    procedures = program.procedures()
    calls = {name: names_in(procedures[name], "call") for name in procedures}
    calls[""] = names_in(program.rows(), "call")
    called = called_from(calls, "")
    return [name for name in procedures if name not in called]


def pruned(program):
    """The Program without the procedures to which no calls lead."""
    idle, procedures = idle_procedures(program), program.procedures()
    return Program(program.sheet, program.rows(), {name: procedures[name] for name in procedures if name not in idle})
