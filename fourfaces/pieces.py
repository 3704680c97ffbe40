"""Pieces: rows side by side in a program, by themselves, and what the program comes to them with."""

from fourfaces.answers import behind_table
from fourfaces.errors import NoPiece
from fourfaces.laying import Layout, machine_of
from fourfaces.leading import label_of
from fourfaces.programs import Program, is_led
from fourfaces.rows import body_at, changed, paths, row_at
from fourfaces.ways import exits, passed_with
from fourfaces.words import is_integer


def body_of(program, address):
    """The rows of the body to which an address, any value, leads, or None if it leads to none."""
    if not isinstance(address, tuple) or len(address) != 2 or not isinstance(address[0], str):
        return None
    if address[0] != "" and address[0] not in program.procedures():
        return None
    return body_at(program.rows(address[0]), address[1])


def pieces(program):
    """The ascending list of all pieces of a program."""
    found = []
    for address in program.addresses():
        most = len(body_of(program, address)) - address[1][-1]
        found.extend([(address, many) for many in range(1, most + 1)])
    return found


def is_piece(program, thing):
    """Whether a thing is a piece of a program."""
    if not isinstance(thing, tuple) or len(thing) != 2 or not is_integer(thing[1]):
        return False
    body = body_of(program, thing[0])
    return body is not None and 1 <= thing[1] <= len(body) - thing[0][1][-1]


def check_piece(program, thing):
    """Raises NoPiece for a thing that is no piece of a program."""
    if not is_piece(program, thing):
        raise NoPiece(thing)


def rows_of(program, piece):
    """The rows of a piece."""
    check_piece(program, piece)
    address, many = piece
    first = address[1][-1]
    return body_of(program, address)[first:first + many]


def led_out(rows):
    """The list of the tuples (path, row) of the leaves and agains in rows that are about nothing in them."""
    found = []
    for path in paths(rows):
        row = row_at(rows, path)
        if not is_led(row, [row_at(rows, path[:end]) for end in range(1, len(path), 2)]):
            found.append((path, row))
    return found


def leading_out(program, piece):
    """The ascending list of the addresses of the leaves and agains that lead out of a piece."""
    rows = rows_of(program, piece)
    name, begin = piece[0]
    return [(name, begin[:-1] + (begin[-1] + path[0],) + path[1:]) for path, _ in led_out(rows)]


def stops_for(some, taken):
    """For each leave and again that leads out of some rows, ascending, a stop whose word is not taken."""
    ways = sorted(set([row for rows in some for path, row in led_out(rows)]))
    stops, at = {}, 0
    for way in ways:
        while label_of("w", at) in taken:
            at += 1
        stops[way] = ("stop", label_of("w", at))
        at += 1
    return stops


def by_itself(program, rows, stops):
    """The Program of rows by themselves, each leave and again that leads out being a stop."""
    closed = rows
    for path, row in led_out(rows):
        closed = changed(closed, path, (stops[row],))
    return Program(program.sheet, closed, program.procedures())


def alone(program, piece):
    """A piece as a Program by itself, and for each word of its stops that led out the way in its place."""
    rows = rows_of(program, piece)
    stops = stops_for([rows], program.names_in("stop"))
    ways = {stops[way][1]: way for way in stops}
    return (by_itself(program, rows, stops), {word: ways[word] for word in sorted(ways)})


def ways_of(program, piece):
    """The ascending list of the ways out by which a piece ends."""
    single, ways = alone(program, piece)
    found = []
    for told in exits(machine_of(single)):
        if told == ("end",):
            found.append(("on",))
        elif told[0] == "stop":
            found.append(ways.get(told[1], told))
        else:
            found.append(told)
    return sorted(found)


def coming(program):
    """For each address of a row to which a program comes the answers with which it does so, in a dict."""
    layout, behind = Layout(program), behind_table(program.sheet)
    machine, found = layout.machine(), {}
    points, names = machine.points(), program.sheet.names()
    led = [(layout.come_first(), list(behind))]
    for point, answers in passed_with(machine):
        row = points[point]
        if row[0] == "do":
            for at, (outcome, _) in enumerate(row[2]):
                led.append((layout.come_by(point, at), behind[answers][(row[1], outcome)]))
        elif row[0] == "ask":
            led.append((layout.come_by(point, 0 if answers[names.index(row[1])] else 1), [answers]))
        elif row[0] == "mark":
            led.append((layout.come_by(point, 0), [answers]))
    for addresses, some in led:
        for address in addresses:
            for answers in some:
                found.setdefault(address, {})[answers] = True
    return found


def comes_with(program, piece):
    """The ascending list of the answers with which a program comes to the first row of a piece."""
    check_piece(program, piece)
    return sorted(coming(program).get(piece[0], {}))
