"""Traces: their form, and how they are led back from what was found on the way."""

from fourfaces.answers import are_answers
from fourfaces.words import is_name


def opens(sheet, behind, thing):
    """Whether a thing is a tuple of answers that can be, and turns; behind is the table of the sheet."""
    if not isinstance(thing, tuple) or len(thing) != 2 or not isinstance(thing[1], (list, tuple)):
        return False
    return are_answers(sheet, thing[0]) and thing[0] in behind


def follows(sheet, behind, answers, turn):
    """Whether a turn, any value, can stand behind answers that can be."""
    if not isinstance(turn, tuple) or len(turn) != 3 or not is_name(turn[0]) or not is_name(turn[1]):
        return False
    return are_answers(sheet, turn[2]) and turn[2] in behind[answers].get((turn[0], turn[1]), [])


def trace_back(former, state):
    """The trace that leads to a state, former having for each one how it was come to first.

    That is a tuple of the state ahead and the turn, or None at a begin; a state ends by its answers.
    """
    turns = []
    while former[state] is not None:
        state, turn = former[state]
        turns.append(turn)
    return (state[-1], turns[::-1])
