"""Programs: a sheet, rows, and procedures."""

from fourfaces.errors import NoProcedure, NoRow, Ring, Unknown, Wrong
from fourfaces.rows import are_rows, bodies, changed, names_in, paths, put, renamed, row_at
from fourfaces.sheets import Sheet
from fourfaces.words import is_name

# what a leave, and an again, can be about
TARGETS = {"leave": ("loop", "block"), "again": ("loop",)}
SHEET_KINDS = ("cell", "ask", "step", "outcome")


def are_procedures(thing):
    """Whether a thing is a dict from names to rows."""
    return isinstance(thing, dict) and all([is_name(name) and are_rows(thing[name]) for name in thing])


def is_target(row, other):
    """Whether a leave or an again, row, can be about another row around it."""
    return other[0] in TARGETS.get(row[0], ()) and other[1] == row[1]


def is_known(sheet, procedures, row):
    """Whether what a row itself names of steps, outcomes, asks and procedures is there."""
    if row[0] == "do":
        outcomes = [step[2] for step in sheet.steps() if step[0] == row[1]]
        return len(outcomes) == 1 and all([case[0] in outcomes[0] for case in row[2]])
    if row[0] == "if":
        return row[1] in sheet.names()
    return row[0] != "call" or row[1] in procedures


def is_led(row, around):
    """Whether a leave or an again has its label around it; around is a list of rows."""
    return row[0] not in TARGETS or any([is_target(row, outer) for outer in around])


def first_unknown(sheet, procedures, rows, around):
    """The least path of a row that names what is not there, or None."""
    for index, row in enumerate(rows):
        if not is_known(sheet, procedures, row) or not is_led(row, around):
            return (index,)
        for number, inner in enumerate(bodies(row)):
            path = first_unknown(sheet, procedures, inner, around + [row])
            if path is not None:
                return (index, number) + path
    return None


def called_from(calls, name):
    """The procedures to which calls lead from one, calls being the list of those that each one calls itself."""
    found, left = {}, list(calls[name])
    while left:
        other = left.pop()
        if other not in found:
            found[other] = True
            left.extend(calls[other])
    return found


class Program:
    """Rows over a sheet, with procedures that they call."""

    def __init__(self, sheet, rows, procedures=None):
        if not isinstance(sheet, Sheet):
            raise Wrong(0)
        if not are_rows(rows):
            raise Wrong(1)
        if procedures is not None and not are_procedures(procedures):
            raise Wrong(2)
        given = {} if procedures is None else procedures
        self._sheet = sheet
        self._rows = {"": rows}
        for name in sorted(given):
            self._rows[name] = given[name]
        for name in self._rows:
            path = first_unknown(sheet, given, self._rows[name], [])
            if path is not None:
                raise Unknown((name, path))
        calls = {name: names_in(self._rows[name], "call") for name in self._rows}
        for name in calls:
            if name in called_from(calls, name):
                raise Ring(name)
        self._addresses = [(name, path) for name in self._rows for path in paths(self._rows[name])]

    def __eq__(self, other):
        return isinstance(other, Program) and self._sheet == other._sheet and self._rows == other._rows

    def __len__(self):
        return len(self._addresses)

    @property
    def sheet(self):
        """The Sheet."""
        return self._sheet

    def rows(self, name=""):
        """The program's own rows, or those of a procedure."""
        if not isinstance(name, str) or name not in self._rows:
            raise NoProcedure(name)
        return self._rows[name]

    def procedures(self):
        """The dict of the procedures, from names to rows."""
        return {name: self._rows[name] for name in self._rows if name != ""}

    def addresses(self):
        """The ascending list of the addresses of all rows."""
        return list(self._addresses)

    def names_in(self, kind):
        """The ascending list of all names of a kind in its rows, those of its procedures too."""
        return sorted(set([word for name in self._rows for word in names_in(self._rows[name], kind)]))

    def _led_rows(self, address):
        """The rows of the program, or of the procedure, that an address names, any value."""
        if not isinstance(address, tuple) or len(address) != 2:
            raise NoRow(address)
        if not isinstance(address[0], str) or address[0] not in self._rows:
            raise NoRow(address)
        return self._rows[address[0]]

    def row_at(self, address):
        """The row at an address."""
        rows = self._led_rows(address)
        try:
            return row_at(rows, address[1])
        except NoRow:
            raise NoRow(address) from None

    def around(self, address):
        """The list of the addresses of the rows in whose bodies a row stands, the outermost first."""
        self.row_at(address)
        name, path = address
        return [(name, path[:end]) for end in range(1, len(path), 2)]

    def led_to(self, address):
        """The address of the loop or block that a leave or an again is about, or None for another row."""
        row = self.row_at(address)
        found = [outer for outer in self.around(address) if is_target(row, self.row_at(outer))]
        return found[-1] if found else None

    def _with(self, name, rows):
        """The Program with other rows for itself or for a procedure."""
        found = {other: self._rows[other] for other in self._rows}
        found[name] = rows
        own = found.pop("")
        return Program(self._sheet, own, found)

    def with_rows(self, name, rows):
        """The Program with other rows for itself or for a procedure, which may be a new one."""
        if name != "" and not is_name(name):
            raise Wrong(0)
        if not are_rows(rows):
            raise Wrong(1)
        return self._with(name, rows)

    def without(self, name):
        """The Program without a procedure."""
        if not is_name(name) or name not in self._rows:
            raise NoProcedure(name)
        rest = self.procedures()
        del rest[name]
        return Program(self._sheet, self._rows[""], rest)

    def put(self, address, row):
        """The Program with a row put in ahead of a place, which may be behind the last one of its list."""
        rows = self._led_rows(address)
        try:
            rows = put(rows, address[1], row)
        except NoRow:
            raise NoRow(address) from None
        return self._with(address[0], rows)

    def out(self, address):
        """The Program without the row at an address."""
        return self.changed(address, ())

    def changed(self, address, some):
        """The Program with some rows in the place of the row at an address."""
        self.row_at(address)
        return self._with(address[0], changed(self._rows[address[0]], address[1], some))

    def renamed(self, kind, names):
        """The Program with other names of a kind in the place of some, in its Sheet, too."""
        sheet = self._sheet.renamed(kind, names) if kind in SHEET_KINDS else self._sheet
        found = {}
        for name in self._rows:
            rows = self._rows[name]
            led = names.get(name, name) if kind == "call" else name
            found[led] = rows if kind == "cell" else renamed(rows, kind, names)
        own = found.pop("")
        return Program(sheet, own, found)
