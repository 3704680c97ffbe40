"""Programs: a sheet, rows, and procedures."""

from fourfaces.errors import NoProcedure, NoRow, Ring, Unknown, Wrong
from fourfaces.rows import are_rows, bodies, names_in, paths, row_at
from fourfaces.sheets import Sheet
from fourfaces.words import is_name


def are_procedures(thing):
    """Whether a thing is a dict from names to rows."""
    return isinstance(thing, dict) and all([is_name(name) and are_rows(thing[name]) for name in thing])


def is_known(sheet, procedures, row):
    """Whether what a row itself names of steps, outcomes, asks and procedures is there."""
    if row[0] == "do":
        outcomes = [step[2] for step in sheet.steps() if step[0] == row[1]]
        return len(outcomes) == 1 and all([case[0] in outcomes[0] for case in row[2]])
    if row[0] == "if":
        return row[1] in sheet.names()
    return row[0] != "call" or row[1] in procedures


def is_led(row, around):
    """Whether a leave or an again has its label around it; around is a list of rows."""
    if row[0] == "leave":
        return any([outer[0] in ("loop", "block") and outer[1] == row[1] for outer in around])
    if row[0] == "again":
        return any([outer[0] == "loop" and outer[1] == row[1] for outer in around])
    return True


def first_unknown(sheet, procedures, rows, around):
    """The least path of a row that names what is not there, or None."""
    for index, row in enumerate(rows):
        if not is_known(sheet, procedures, row) or not is_led(row, around):
            return (index,)
        for number, inner in enumerate(bodies(row)):
            path = first_unknown(sheet, procedures, inner, around + [row])
            if path is not None:
                return (index, number) + path
    return None


def called_from(calls, name):
    """The procedures to which calls lead from one, calls being the list of those that each one calls itself."""
    found, left = {}, list(calls[name])
    while left:
        other = left.pop()
        if other not in found:
            found[other] = True
            left.extend(calls[other])
    return found


class Program:
    """Rows over a sheet, with procedures that they call."""

    def __init__(self, sheet, rows, procedures=None):
        if not isinstance(sheet, Sheet):
            raise Wrong(0)
        if not are_rows(rows):
            raise Wrong(1)
        if procedures is not None and not are_procedures(procedures):
            raise Wrong(2)
        given = {} if procedures is None else procedures
        self._sheet = sheet
        self._rows = {"": rows}
        for name in sorted(given):
            self._rows[name] = given[name]
        for name in self._rows:
            path = first_unknown(sheet, given, self._rows[name], [])
            if path is not None:
                raise Unknown((name, path))
        calls = {name: names_in(self._rows[name], "call") for name in self._rows}
        for name in calls:
            if name in called_from(calls, name):
                raise Ring(name)
        self._addresses = [(name, path) for name in self._rows for path in paths(self._rows[name])]

    def __eq__(self, other):
        return isinstance(other, Program) and self._sheet == other._sheet and self._rows == other._rows

    def __len__(self):
        return len(self._addresses)

    @property
    def sheet(self):
        """The Sheet."""
        return self._sheet

    def rows(self, name=""):
        """The program's own rows, or those of a procedure."""
        if not isinstance(name, str) or name not in self._rows:
            raise NoProcedure(name)
        return self._rows[name]

    def procedures(self):
        """The dict of the procedures, from names to rows."""
        return {name: self._rows[name] for name in self._rows if name != ""}

    def addresses(self):
        """The ascending list of the addresses of all rows."""
        return list(self._addresses)

    def row_at(self, address):
        """The row at an address."""
        if not isinstance(address, tuple) or len(address) != 2:
            raise NoRow(address)
        if not isinstance(address[0], str) or address[0] not in self._rows:
            raise NoRow(address)
        try:
            return row_at(self._rows[address[0]], address[1])
        except NoRow:
            raise NoRow(address) from None
