"""Pieces of programs, worked out in the plainest way, to compare with."""

import oracle
from fourfaces.laying import machine_of
from fourfaces.programs import Program
from fourfaces.rows import bodies, names_in, with_bodies
from fourfaces.worlds import trace_world


def in_piece(piece, address):
    """Whether a row at an address is one of a piece, or stands in one."""
    (name, path), many = piece
    if address[0] != name or len(address[1]) < len(path) or address[1][:len(path) - 1] != path[:-1]:
        return False
    return path[-1] <= address[1][len(path) - 1] < path[-1] + many


def body(program, address):
    """The rows of the body in which a row stands."""
    name, path = address
    rows = program.rows(name)
    for at in range(0, len(path) - 1, 2):
        rows = bodies(rows[path[at]])[path[at + 1]]
    return rows


def rows_of(program, piece):
    first = piece[0][1][-1]
    return body(program, piece[0])[first:first + piece[1]]


def pieces(program):
    found = []
    for address in program.addresses():
        for many in range(1, len(body(program, address)) - address[1][-1] + 1):
            found.append((address, many))
    return sorted(found)


def leading_out(program, piece):
    """The addresses of the leaves and agains in a piece about what is not in it."""
    found = []
    for address in program.addresses():
        if in_piece(piece, address) and program.row_at(address)[0] in ("leave", "again"):
            if not in_piece(piece, program.led_to(address)):
                found.append(address)
    return found


def closed(rows, around=()):
    """The rows, each leave and again that leads out of them being a stop by a word that no other stop has."""
    found = []
    for row in rows:
        if row[0] in ("leave", "again"):
            kinds = ("loop", "block") if row[0] == "leave" else ("loop",)
            if not any(kind in kinds and label == row[1] for kind, label in around):
                row = ("stop", "z" + row[0][0] + row[1])
        inner = around + ((row[0], row[1]),) if row[0] in ("loop", "block") else around
        found.append(with_bodies(row, [closed(some, inner) for some in bodies(row)]))
    return tuple(found)


def single(program, rows):
    """The machine of rows by themselves."""
    return machine_of(Program(program.sheet, closed(rows), program.procedures()))


def same_from(program, first, second, some):
    """Whether rows show the same as others from some answers."""
    ground = oracle.Ground(program.sheet)
    alike = oracle.alike(ground, single(program, first), single(program, second))
    return all((0, 0, answers) in alike for answers in some)


class Coming(oracle.Rows):
    """Does rows in a world, and notes with which answers each row is come to, up to a step that is one too many."""

    def __init__(self, program, world, state, turns):
        oracle.Rows.__init__(self, program, world, state, 400)
        self.come, self.turns = set(), turns

    def row(self, name, row, path, calls, waits):
        self.come.add(((name, path), self.world.answers(self.state)))
        return oracle.Rows.row(self, name, row, path, calls, waits)

    def do(self, name, row, path, calls, waits):
        if self.turns == 0:
            raise oracle.Halt()
        self.turns -= 1
        return oracle.Rows.do(self, name, row, path, calls, waits)


def traces_of(ground, machine):
    """For each situation that is reached, and each turn from it, a trace that ends by this turn; the begins, too."""
    found = {(0, answers): (answers, []) for answers in ground.can}
    some, queue = [found[situation] for situation in found], list(found)
    for situation in queue:
        for turn, later in oracle.turns(ground, machine, situation):
            answers, turns = found[situation]
            some.append((answers, turns + [turn]))
            if later not in found:
                found[later] = some[-1]
                queue.append(later)
    return some


def coming(program):
    """The tuples (address, answers) of all rows to which a program comes, and of the answers there."""
    ground, machine, found = oracle.Ground(program.sheet), machine_of(program), set()
    for trace in traces_of(ground, machine):
        run = Coming(program, trace_world(program.sheet, trace), 0, len(trace[1]))
        run.run()
        found |= run.come
    return found


def comes_with(program, piece):
    return sorted(answers for address, answers in coming(program) if address == piece[0])


def ways_of(program, piece):
    """The ways by which the rows of a piece end, done by themselves along all traces that are needed."""
    rows, found = rows_of(program, piece), set()
    for trace in traces_of(oracle.Ground(program.sheet), single(program, rows)):
        run = Coming(program, trace_world(program.sheet, trace), 0, len(trace[1]))
        try:
            found.add(run.rows("", rows, (), (), ()))
        except oracle.Halt:
            pass
    return sorted(found)


def called(program, rows):
    """The procedures to which calls lead from rows, one behind the other."""
    found, left = set(), names_in(rows, "call")
    while left:
        name = left.pop()
        if name not in found:
            found.add(name)
            left += names_in(program.rows(name), "call")
    return found


def apart(program, some):
    """Some pieces, in their order, but none that has a row in common with a former one, or is led out of."""
    found, taken = [], set()
    for piece in some:
        rows = {address for address in program.addresses() if in_piece(piece, address)}
        if not rows & taken and not leading_out(program, piece):
            taken |= rows
            found.append(piece)
    return found
