"""Book: a program that is changed by deeds, which can be undone, and a frame that is carried along."""

from fourfaces.alike import show_same
from fourfaces.errors import NoEntry, Nothing, Over, Wrong
from fourfaces.frames import Frame, carried
from fourfaces.laying import machine_of
from fourfaces.programs import Program
from fourfaces.versions import version_behind
from fourfaces.words import is_integer


def copy_of(frame):
    """A copy of a Frame, or None if there is none."""
    return None if frame is None else frame.copied()


def carried_to(frame, program):
    """The first Frame of a program's machine that a Frame comes to be, or None."""
    if frame is None or frame.machine().sheet != program.sheet:
        return None
    found = carried(frame, machine_of(program))
    return found[0] if found else None


class Book:
    """A program, the deeds by which it came to stand as it does, and those that were undone.

    A stage is a tuple of the Program behind a deed and the frames ahead of the deed and behind it. The lists
    are never changed themselves, and frames that are kept go on as copies, so both can be brought back.
    """

    def __init__(self, program):
        if not isinstance(program, Program):
            raise Wrong(0)
        self._first = program
        self._log, self._stages, self._undone, self._frame = [], [], [], None

    def __eq__(self, other):
        return isinstance(other, Book) and self._first == other._first and self._log == other._log

    def __len__(self):
        return len(self._log)

    def _program_behind(self, many):
        """The Program behind the first so many deeds."""
        return self._first if many == 0 else self._stages[many - 1][0]

    def program(self):
        """The Program that stands."""
        return self._program_behind(len(self._log))

    def machine(self):
        """The Machine of the Program that stands."""
        return machine_of(self.program())

    def log(self):
        """The list of the deeds that are done and not undone."""
        return list(self._log)

    def do(self, deed):
        """Does a deed, any value, and lets go what was undone."""
        later = version_behind(self.program(), deed)
        ahead = copy_of(self._frame)
        behind = carried_to(ahead, later)
        self._log, self._undone = self._log + [deed], []
        self._stages = self._stages + [(later, ahead, behind)]
        self._frame = copy_of(behind)

    def undo(self):
        """Undoes the last deed of the log and returns it."""
        if not self._log:
            raise Nothing()
        deed, stage = self._log[-1], self._stages[-1]
        self._log, self._stages = self._log[:-1], self._stages[:-1]
        self._undone = self._undone + [(deed, stage)]
        self._frame = copy_of(stage[1])
        return deed

    def redo(self):
        """Does the deed again that was undone last and returns it."""
        if not self._undone:
            raise Nothing()
        deed, stage = self._undone[-1]
        self._log, self._stages = self._log + [deed], self._stages + [stage]
        self._undone = self._undone[:-1]
        self._frame = copy_of(stage[2])
        return deed

    def past(self, many):
        """The Program behind the first so many deeds, any value."""
        if not is_integer(many) or not 0 <= many <= len(self._log):
            raise NoEntry(many)
        return self._program_behind(many)

    def shown_alike(self):
        """The ascending list of the numbers of deeds behind which the Program shows the same as the one that stands."""
        machine, found = self.machine(), []
        for many in range(len(self._log) + 1):
            program = self._program_behind(many)
            if program.sheet == machine.sheet and show_same(machine_of(program), machine):
                found.append(many)
        return found

    def start(self, world, state):
        """Lets a Frame begin in the machine that stands, in the place of a former one."""
        self._frame = Frame(self.machine(), world, state)

    def frame(self):
        """A copy of the Frame, or None if there is none."""
        return copy_of(self._frame)

    def go(self, most):
        """Lets the Frame go on, so many times at the most; returns how often it did."""
        if self._frame is None:
            raise Over()
        return self._frame.go(most)

    def copied(self):
        """A Book that stands as this one does, with what was undone and its Frame, and goes on by itself."""
        other = Book(self._first)
        other._log, other._stages, other._undone = self._log, self._stages, self._undone
        other._frame = copy_of(self._frame)
        return other

    def trial(self, act):
        """Calls act with the Book, returns what that returns, and leaves the Book as it was."""
        log, stages, undone, frame = self._log, self._stages, self._undone, copy_of(self._frame)
        try:
            return act(self)
        finally:
            self._log, self._stages, self._undone, self._frame = log, stages, undone, frame
