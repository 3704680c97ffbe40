"""Sheets, worlds, machines, programs and values of all kinds for the tests, the same ones each time."""

import random

from fourfaces.answers import behind, can_be
from fourfaces.errors import FaceError
from fourfaces.laying import machine_of
from fourfaces.machines import Machine
from fourfaces.programs import Program
from fourfaces.sheets import Sheet
from fourfaces.worlds import World

ERRORS = ["e", "f"]
WORDS = ["u", "v", "w"]
LABELS = ["k", "l", "m"]


def dice(seed):
    return random.Random(seed)


def some_of(luck, things, least=0):
    return sorted(luck.sample(things, luck.randint(min(least, len(things)), len(things))))


def random_fact(luck, asks, steps):
    if steps and luck.random() < 0.6:
        name, _, outcomes = luck.choice(steps)
        return ("after", name, luck.choice(outcomes), luck.choice(asks)[0], luck.random() < 0.5)
    names = some_of(luck, [ask[0] for ask in asks], 1)
    return ("never", tuple((name, luck.random() < 0.5) for name in names))


def random_sheet(luck, most_asks=3, most_steps=3, most_facts=3, living=True):
    """A sheet; with living, one some of whose answers can be."""
    while True:
        cells = some_of(luck, ["c", "d", "g"])
        asks = [(name, some_of(luck, cells)) for name in ["p", "q", "r"][:luck.randint(0, most_asks)]]
        steps = []
        for name in ["s", "t", "x", "y"][:luck.randint(0, most_steps)]:
            steps.append((name, some_of(luck, cells), some_of(luck, ["a", "b", "o"], 1)))
        facts = [random_fact(luck, asks, steps) for _ in range(luck.randint(0, most_facts))] if asks else []
        sheet = Sheet(cells, asks, steps, facts)
        if not living or can_be(sheet):
            return sheet


def still_sheet(luck):
    """A sheet no step of which puts a cell at which an ask looks."""
    asks = [("p", ["c"]), ("q", [])][:luck.randint(0, 2)]
    steps = [(name, ["d"], ["a", "b", "o"][:luck.randint(1, 3)]) for name in ["s", "t", "x"][:luck.randint(1, 3)]]
    facts = [("after", "s", "a", "p", True)] if asks and len(steps[0][2]) > 1 and luck.random() < 0.3 else []
    return Sheet(["c", "d"], asks, steps, facts)


class Grower:
    """Grows rows of a program at random."""

    def __init__(self, luck, sheet, size):
        self.luck, self.sheet, self.left = luck, sheet, size

    def rows(self, around, calls, depth):
        found = []
        for _ in range(self.luck.choice([0, 1, 1, 2, 2, 3])):
            if self.left > 0:
                self.left -= 1
                found.append(self.row(around, calls, depth))
        return tuple(found)

    def kinds(self, around, calls, depth):
        kinds = ["mark", "mark", "raise", "stop"]
        kinds += ["do"] * 4 if self.sheet.steps() else []
        kinds += ["leave"] * 2 if around else []
        kinds += ["again"] if any(kind == "loop" for kind, label in around) else []
        kinds += ["call"] * 2 if calls else []
        if depth > 1:
            kinds += ["loop", "loop", "block", "try", "try", "try"]
            kinds += ["if"] * 3 if self.sheet.names() else []
        return kinds

    def row(self, around, calls, depth):
        luck, kind = self.luck, self.luck.choice(self.kinds(around, calls, depth))
        if kind == "do":
            name, _, outcomes = luck.choice(self.sheet.steps())
            ends = some_of(luck, outcomes) if depth > 1 else []
            return ("do", name, tuple((end, self.rows(around, calls, depth - 1)) for end in ends))
        if kind == "if":
            first = self.rows(around, calls, depth - 1)
            return ("if", luck.choice(self.sheet.names()), first, self.rows(around, calls, depth - 1))
        if kind in ("loop", "block"):
            label = luck.choice(LABELS)
            return (kind, label, self.rows(around + [(kind, label)], calls, depth - 1))
        if kind == "try":
            return self.attempt(around, calls, depth - 1)
        if kind == "leave":
            return ("leave", luck.choice(around)[1])
        if kind == "again":
            return ("again", luck.choice([label for kind, label in around if kind == "loop"]))
        if kind == "call":
            return ("call", luck.choice(calls))
        return (kind, luck.choice(ERRORS if kind == "raise" else WORDS))


    def attempt(self, around, calls, depth):
        """A try whose rows and whose always often lead out of it."""
        luck = self.luck
        jumps = [("raise", luck.choice(ERRORS)), ("stop", luck.choice(WORDS))]
        jumps += [("leave", label) for kind, label in around]
        jumps += [("again", label) for kind, label in around if kind == "loop"]
        first = self.rows(around, calls, depth) + ((luck.choice(jumps),) if luck.random() < 0.5 else ())
        catches = []
        for _ in range(luck.choice([0, 0, 1, 1, 2])):
            catches.append((tuple(some_of(luck, ERRORS)), self.rows(around, calls, depth)))
        always = self.rows(around, calls, depth) + ((luck.choice(jumps),) if luck.random() < 0.4 else ())
        return ("try", first, tuple(catches), always)


def random_program(luck, sheet, size=20, depth=5):
    names = ["n", "z"][:luck.choice([0, 0, 1, 2])]
    procedures = {}
    for at, name in enumerate(names):
        procedures[name] = Grower(luck, sheet, 6).rows([], names[at + 1:], 4)
    return Program(sheet, Grower(luck, sheet, size).rows([], names, depth), procedures)


def small_program(luck, sheet, most=40):
    """A program whose machine has at most so many points."""
    while True:
        program = random_program(luck, sheet)
        try:
            if len(machine_of(program)) <= most:
                return program
        except FaceError:
            pass


def random_points(luck, sheet, many):
    points = []
    for _ in range(many):
        kinds = ["out", "round", "mark"]
        kinds += ["do"] * 5 if sheet.steps() else []
        kinds += ["ask"] * 4 if sheet.names() else []
        kind = luck.choice(kinds)
        if kind == "do":
            name, _, outcomes = luck.choice(sheet.steps())
            points.append(("do", name, tuple((end, luck.randrange(many)) for end in outcomes)))
        elif kind == "ask":
            points.append(("ask", luck.choice(sheet.names()), luck.randrange(many), luck.randrange(many)))
        elif kind == "mark":
            points.append(("mark", luck.choice(WORDS), luck.randrange(many)))
        elif kind == "out":
            points.append(("out", luck.choice([("end",), ("raise", "e"), ("stop", "w")])))
        else:
            points.append(("round",))
    return points


def random_machine(luck, sheet, many=8):
    return Machine.made(sheet, random_points(luck, sheet, many), luck.randrange(many))


def random_leads(luck, sheet, states, later):
    return {name: (luck.choice(outcomes), luck.choice(later)) for name, _, outcomes in sheet.steps()}


def keeping_world(luck, sheet, many=6):
    """A world that keeps a sheet, with all answers that can be and some more states."""
    can = can_be(sheet)
    some = can + [luck.choice(can) for _ in range(many)]
    states = []
    for answers in some:
        leads = {}
        for name, _, outcomes in sheet.steps():
            ends = []
            for outcome in outcomes:
                later = behind(sheet, answers, name, outcome)
                ends += [(outcome, at) for at, other in enumerate(some) if other in later]
            leads[name] = luck.choice(ends)
        states.append((answers, leads))
    return World(sheet, states)


def lively_machine(luck, sheet, many=8, forward=False):
    """A machine with few ends; with forward, one whose points lead to later ones alone."""
    points = []
    for at in range(many - 1):
        kinds = ["mark", "mark"] + (["do"] * 3 if sheet.steps() else []) + (["ask"] * 3 if sheet.names() else [])
        kind, goals = luck.choice(kinds), range(at + 1 if forward else 0, many)
        if kind == "do":
            name, _, outcomes = luck.choice(sheet.steps())
            points.append(("do", name, tuple((end, luck.choice(goals)) for end in outcomes)))
        elif kind == "ask":
            points.append(("ask", luck.choice(sheet.names()), luck.choice(goals), luck.choice(goals)))
        else:
            points.append(("mark", luck.choice(WORDS), luck.choice(goals)))
    points.append(luck.choice([("out", ("end",)), ("out", ("end",)), ("out", ("raise", "e")), ("round",)]))
    return Machine.made(sheet, points, 0)


class Oddity:
    """A thing that is none of those which are asked for."""


ODDITIES = [
    None, True, False, 0, 1, -1, 10 ** 59, "", "a", "A", "a b", "abcdefgh", "abcdefghi", "a\n", "a1", "end",
    (), [], {}, ("a",), ["a"], {"a": "b"}, (0,), [0], ((),), [[]], ("end",), ("on",), (True,), ((False,), []),
    ("never", ()), (((),),), {"s": ("ok", 0)}, ("do", "s"), ("round",), ("out", ("end",)), Oddity(), (None, None),
    ("never",), ("after",), ("a", "b"), (("a", True),), [("a", True)], ("", ()), ("", (0,)), ("a", "b", "c"),
]


def twisted(thing):
    """Things like one, each with a part that is exchanged, left out or added."""
    found = []
    if isinstance(thing, bool):
        found += [int(thing), not thing, None, str(thing)]
    elif isinstance(thing, int):
        found += [thing + 1, -1 - thing, str(thing), None] + ([bool(thing)] if thing in (0, 1) else [])
    elif isinstance(thing, str):
        found += [thing + "s", thing.upper(), "", None, 0, (thing,), [thing]]
    elif isinstance(thing, (list, tuple)):
        kind = tuple if isinstance(thing, tuple) else list
        found += [list(thing) if kind is tuple else tuple(thing), kind(list(thing) + [None]), None]
        for at, part in enumerate(thing):
            found.append(kind(list(thing[:at]) + list(thing[at + 1:])))
            found.append(kind(list(thing[:at]) + [part] + list(thing[at:])))
            found += [kind(list(thing[:at]) + [other] + list(thing[at + 1:])) for other in twisted(part)]
            if at > 0:
                found.append(kind(list(thing[:at - 1]) + [part, thing[at - 1]] + list(thing[at + 1:])))
    elif isinstance(thing, dict):
        found += [list(thing), None, {**thing, "zz": None}]
        for key in thing:
            rest = {other: thing[other] for other in thing if other != key}
            found.append(rest)
            found += [{**rest, key: other} for other in twisted(thing[key])]
    else:
        found += [0, False, "a"]
    return found
