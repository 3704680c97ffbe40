"""Rows: their form, their bodies, the paths to them, and rows that are changed."""

from fourfaces.errors import NoRow
from fourfaces.words import are_ascending, are_names, is_integer, is_name

SINGLES = ("mark", "leave", "again", "raise", "stop", "call")
HOLDERS = {
    "step": ("do",),
    "outcome": (),
    "ask": ("if",),
    "mark": ("mark",),
    "label": ("loop", "block", "leave", "again"),
    "error": ("raise",),
    "stop": ("stop",),
    "call": ("call",),
}


def is_case(thing):
    """Whether a thing is a case of a do: an outcome and rows."""
    return isinstance(thing, tuple) and len(thing) == 2 and is_name(thing[0]) and are_rows(thing[1])


def are_cases(thing):
    """Whether a thing is a tuple of cases, their outcomes ascending and different."""
    if not isinstance(thing, tuple) or not all([is_case(part) for part in thing]):
        return False
    return are_ascending([outcome for outcome, rows in thing])


def is_catch(thing):
    """Whether a thing is a catch of a try: errors and rows."""
    return isinstance(thing, tuple) and len(thing) == 2 and are_names(thing[0]) and are_rows(thing[1])


def are_catches(thing):
    """Whether a thing is a tuple of catches."""
    return isinstance(thing, tuple) and all([is_catch(part) for part in thing])


def is_row(thing):
    """Whether a thing is a row by its form."""
    if not isinstance(thing, tuple) or len(thing) < 2 or not isinstance(thing[0], str):
        return False
    kind, parts = thing[0], thing[1:]
    if kind == "try":
        return len(parts) == 3 and are_rows(parts[0]) and are_catches(parts[1]) and are_rows(parts[2])
    if not is_name(parts[0]):
        return False
    if kind == "do":
        return len(parts) == 2 and are_cases(parts[1])
    if kind == "if":
        return len(parts) == 3 and are_rows(parts[1]) and are_rows(parts[2])
    if kind in ("loop", "block"):
        return len(parts) == 2 and are_rows(parts[1])
    return kind in SINGLES and len(parts) == 1


def are_rows(thing):
    """Whether a thing is rows by its form."""
    return isinstance(thing, tuple) and all([is_row(part) for part in thing])


def bodies(row):
    """The list of the bodies of a row, in order."""
    if row[0] == "do":
        return [rows for outcome, rows in row[2]]
    if row[0] == "if":
        return [row[2], row[3]]
    if row[0] in ("loop", "block"):
        return [row[2]]
    if row[0] == "try":
        return [row[1]] + [rows for errors, rows in row[2]] + [row[3]]
    return []


def with_bodies(row, some):
    """The row with other rows as its bodies, as many as it has."""
    if row[0] == "do":
        return ("do", row[1], tuple([(case[0], rows) for case, rows in zip(row[2], some)]))
    if row[0] == "if":
        return ("if", row[1], some[0], some[1])
    if row[0] in ("loop", "block"):
        return (row[0], row[1], some[0])
    if row[0] == "try":
        catches = tuple([(catch[0], rows) for catch, rows in zip(row[2], some[1:-1])])
        return ("try", some[0], catches, some[-1])
    return row


def how_many(rows):
    """The number of rows, those in bodies at any depth too."""
    return sum([1 + sum([how_many(inner) for inner in bodies(row)]) for row in rows])


def depth(rows):
    """How deep rows stand in one another: 0 without rows, 1 for rows without rows in them."""
    return max([1 + max([depth(inner) for inner in bodies(row)], default=0) for row in rows], default=0)


def paths(rows):
    """The ascending list of the paths of all rows."""
    found = []
    for index, row in enumerate(rows):
        found.append((index,))
        for number, inner in enumerate(bodies(row)):
            found.extend([(index, number) + path for path in paths(inner)])
    return found


def is_path(thing):
    """Whether a thing is a path by its form."""
    if not isinstance(thing, tuple) or len(thing) & 1 == 0:
        return False
    return all([is_integer(part) and part >= 0 for part in thing])


def body_at(rows, path):
    """The rows in which the last index of a path counts, or None if it leads nowhere."""
    if not is_path(path):
        return None
    for at in range(0, len(path) - 1, 2):
        if path[at] >= len(rows):
            return None
        inner = bodies(rows[path[at]])
        if path[at + 1] >= len(inner):
            return None
        rows = inner[path[at + 1]]
    return rows


def row_at(rows, path):
    """The row at a path."""
    body = body_at(rows, path)
    if body is None or path[-1] >= len(body):
        raise NoRow(path)
    return body[path[-1]]


def spliced(rows, path, many, some):
    """The rows with some in the place of so many at a path that is there."""
    index = path[0]
    if len(path) == 1:
        return rows[:index] + tuple(some) + rows[index + many:]
    inner = bodies(rows[index])
    inner[path[1]] = spliced(inner[path[1]], path[2:], many, some)
    return rows[:index] + (with_bodies(rows[index], inner),) + rows[index + 1:]


def put(rows, path, row):
    """The rows with a row put in ahead of a place, which may be behind the last one."""
    body = body_at(rows, path)
    if body is None or path[-1] > len(body):
        raise NoRow(path)
    return spliced(rows, path, 0, (row,))


def out(rows, path):
    """The rows without the row at a path."""
    return changed(rows, path, ())


def changed(rows, path, some):
    """The rows with some in the place of the row at a path."""
    row_at(rows, path)
    return spliced(rows, path, 1, some)


def own_names(row, kind):
    """The names of a kind that stand in a row itself."""
    if kind == "outcome" and row[0] == "do":
        return [outcome for outcome, rows in row[2]]
    if kind == "error" and row[0] == "try":
        return [error for errors, rows in row[2] for error in errors]
    return [row[1]] if row[0] in HOLDERS[kind] else []


def all_names(rows, kind):
    """The names of a kind that stand in rows, as often as they do."""
    found = []
    for row in rows:
        found.extend(own_names(row, kind))
        for inner in bodies(row):
            found.extend(all_names(inner, kind))
    return found


def names_in(rows, kind):
    """The ascending list of the names of a kind that stand in rows, at any depth."""
    return sorted(set(all_names(rows, kind)))


def renamed_row(row, kind, names):
    """The row with other names of a kind, in its bodies too."""
    row = with_bodies(row, [renamed(inner, kind, names) for inner in bodies(row)])
    if kind == "outcome" and row[0] == "do":
        cases = [(names.get(outcome, outcome), rows) for outcome, rows in row[2]]
        return ("do", row[1], tuple(sorted(cases, key=lambda case: case[0])))
    if kind == "error" and row[0] == "try":
        catches = [(sorted([names.get(error, error) for error in errors]), rows) for errors, rows in row[2]]
        return ("try", row[1], tuple([(tuple(errors), rows) for errors, rows in catches]), row[3])
    if row[0] in HOLDERS[kind]:
        return (row[0], names.get(row[1], row[1])) + row[2:]
    return row


def renamed(rows, kind, names):
    """The rows with other names of a kind in the place of some."""
    return tuple([renamed_row(row, kind, names) for row in rows])
