"""What small things are by their form: integers, truths, names, facts, ways, exits."""

LETTERS = "abcdefghijklmnopqrstuvwxyz"
LONGEST = 8


def is_integer(thing):
    """Whether a thing is an integer; a truth is none."""
    return isinstance(thing, int) and not isinstance(thing, bool)


def is_truth(thing):
    """Whether a thing is True or False; 1 and 0 are not."""
    return isinstance(thing, bool)


def is_name(thing):
    """Whether a thing is a string of one to eight letters a to z."""
    return isinstance(thing, str) and 1 <= len(thing) <= LONGEST and all([sign in LETTERS for sign in thing])


def are_ascending(names):
    """Whether names ascend, each of them different from the others."""
    return all([names[at] < names[at + 1] for at in range(len(names) - 1)])


def are_names(thing):
    """Whether a thing is an ascending tuple of different names, perhaps empty."""
    return isinstance(thing, tuple) and all([is_name(part) for part in thing]) and are_ascending(thing)


def is_answered(thing):
    """Whether a thing is a tuple of an ask's name and a truth."""
    return isinstance(thing, tuple) and len(thing) == 2 and is_name(thing[0]) and is_truth(thing[1])


def are_answered(thing):
    """Whether a thing is a tuple of such tuples, one at least, their asks ascending and different."""
    if not isinstance(thing, tuple) or not thing or not all([is_answered(part) for part in thing]):
        return False
    return are_ascending([ask for ask, truth in thing])


def is_fact(thing):
    """Whether a thing is a fact by its form."""
    if not isinstance(thing, tuple) or len(thing) < 2:
        return False
    if thing[0] == "never":
        return len(thing) == 2 and are_answered(thing[1])
    if thing[0] != "after" or len(thing) != 5:
        return False
    return all([is_name(part) for part in thing[1:4]]) and is_truth(thing[4])


def is_word_of(thing, kinds):
    """Whether a thing is a tuple of one of some kinds and a name."""
    if not isinstance(thing, tuple) or len(thing) != 2 or not isinstance(thing[0], str):
        return False
    return thing[0] in kinds and is_name(thing[1])


def is_lone(thing, kind):
    """Whether a thing is the tuple of just this kind."""
    return isinstance(thing, tuple) and len(thing) == 1 and isinstance(thing[0], str) and thing[0] == kind


def is_way(thing):
    """Whether a thing is a way by which rows end."""
    return is_lone(thing, "on") or is_word_of(thing, ("leave", "again", "raise", "stop"))


def is_exit(thing):
    """Whether a thing is an exit of a program."""
    return is_lone(thing, "end") or is_word_of(thing, ("raise", "stop"))
