"""How the tests look at errors and at what is returned."""

from fourfaces.errors import FaceError


def raised(act, *given):
    """The class of the error that a call raises and its fields, or what it returned."""
    try:
        return ("returned", act(*given))
    except FaceError as error:
        return (type(error), vars(error))


def is_just(thing, kind):
    """Whether a thing is of a class itself, and of none below it."""
    return type(thing) is kind


def forms(thing):
    """A thing with the classes of all its parts, so that True and 1 are told apart."""
    if isinstance(thing, (list, tuple)):
        return (type(thing), [forms(part) for part in thing])
    if isinstance(thing, dict):
        return (dict, sorted([(repr(forms(key)), repr(forms(thing[key]))) for key in thing]))
    return (type(thing), thing)
