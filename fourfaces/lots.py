"""Lots of words: which watches of a machine's words tell its runs, or its beginnings."""

from fourfaces.watches import Net, beginnings_unlike, runs_unlike


def all_watches(words):
    """All watches of some ascending words, those with fewer words first."""
    found = [()]
    for word in words:
        found = found + [watch + (word,) for watch in found]
    return sorted(found, key=len)


def has_words(watch, some):
    """Whether a watch has all of some words."""
    return all([word in watch for word in some])


def told_by(net, watch, way):
    """Whether a watch tells the runs, or the beginnings."""
    return (runs_unlike(net, watch) if way == "runs" else beginnings_unlike(net, watch)) is None


def least_watches(machine, way):
    """The list of the watches that tell, and of which no watch with fewer of these words does."""
    net, least = Net(machine), []
    words = tuple(machine.marks())
    # more words tell no less: if all do not, none do
    if not told_by(net, words, way):
        return []
    for watch in all_watches(words):
        if not any([has_words(watch, other) for other in least]) and told_by(net, watch, way):
            least.append(watch)
    return least


def least_telling(machine, way):
    """The ascending list of the watches that tell, and of which no watch with fewer of these words does."""
    return sorted(least_watches(machine, way))


def greatest_silent(machine, way):
    """The ascending list of the watches that do not tell, and of which each watch with more words does."""
    least, silent = least_watches(machine, way), []
    for watch in reversed(all_watches(machine.marks())):
        tells = any([has_words(watch, other) for other in least])
        if not tells and not any([has_words(other, watch) for other in silent]):
            silent.append(watch)
    return sorted(silent)


def fewest_words(machine, way):
    """The least number of words of a watch that tells, or None if none does."""
    return min([len(watch) for watch in least_watches(machine, way)], default=None)


def needed_words(machine, way):
    """The ascending list of the words that each watch has that tells; all words if none does."""
    least = least_watches(machine, way)
    return [word for word in machine.marks() if all([word in watch for watch in least])]
