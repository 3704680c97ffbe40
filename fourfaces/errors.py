"""The errors that the package raises; each keeps what it is made with as fields."""


class FaceError(ValueError):
    """What all errors of the package are; it is raised nowhere itself."""


class Wrong(FaceError):
    """An argument is not as described."""

    def __init__(self, place):
        self.place = place


class Twice(FaceError):
    """A name stands twice where each may stand once."""

    def __init__(self, name):
        self.name = name


class NoCell(FaceError):
    """A name is none of the cells."""

    def __init__(self, name):
        self.name = name


class NoAsk(FaceError):
    """A value is none of the asks."""

    def __init__(self, name):
        self.name = name


class NoStep(FaceError):
    """A value is none of the steps."""

    def __init__(self, name):
        self.name = name


class NoOutcome(FaceError):
    """A name is no outcome of the step."""

    def __init__(self, outcome):
        self.outcome = outcome


class NoFact(FaceError):
    """A value is none of the facts."""

    def __init__(self, fact):
        self.fact = fact


class NoRow(FaceError):
    """A value is no path, or no address, of a row."""

    def __init__(self, path):
        self.path = path


class Unknown(FaceError):
    """A row names what is not there."""

    def __init__(self, address):
        self.address = address


class NoProcedure(FaceError):
    """A value is the name of no procedure."""

    def __init__(self, name):
        self.name = name


class Ring(FaceError):
    """Calls lead from a procedure back to it."""

    def __init__(self, name):
        self.name = name


class NoTrace(FaceError):
    """A trace is not gone along."""

    def __init__(self, at):
        self.at = at


class TooMany(FaceError):
    """There are more than may be."""

    def __init__(self, most):
        self.most = most


class NoTree(FaceError):
    """A machine is that of no rows."""

    def __init__(self, crossing):
        self.crossing = crossing


class Unlike(FaceError):
    """Things that must be alike are not."""

    def __init__(self):
        pass


class NoTable(FaceError):
    """A log book leads back no table."""

    def __init__(self, lack):
        self.lack = lack


class NoRun(FaceError):
    """No run fits."""

    def __init__(self):
        pass


class Over(FaceError):
    """There is nothing further to go to."""

    def __init__(self):
        pass


class NoText(FaceError):
    """A value is not the text of such a thing."""

    def __init__(self, line):
        self.line = line


class NoEntry(FaceError):
    """A log has not so many entries."""

    def __init__(self, many):
        self.many = many


class Nothing(FaceError):
    """There is nothing to undo, or to do again."""

    def __init__(self):
        pass


class BadDeed(FaceError):
    """A value is no deed."""

    def __init__(self):
        pass


class Refused(FaceError):
    """A deed cannot be done."""

    def __init__(self, deed):
        self.deed = deed


class NoCommand(FaceError):
    """A value is no command."""

    def __init__(self):
        pass


class NoPiece(FaceError):
    """A value is no piece of the program."""

    def __init__(self, piece):
        self.piece = piece


class Crosses(FaceError):
    """A row leads out of what would be a procedure."""

    def __init__(self, address):
        self.address = address


class NoCall(FaceError):
    """A value is no address of a call."""

    def __init__(self, address):
        self.address = address
