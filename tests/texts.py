"""Texts of rows and of programs, gone through in the plainest way, to compare with."""

import re

NAME = "[a-z]{1,8}"
SINGLE = re.compile(f"(do|mark|leave|again|raise|stop|call) {NAME}")
BLOCK = re.compile(f"(do {NAME} of|if {NAME}|loop {NAME}|block {NAME}|try)")


class Misfit(Exception):
    """The line that does not fit; the number of the lines if there are too few."""

    def __init__(self, line):
        self.line = line


class Lines:
    """Lines that are gone through; each method takes those that it tells and returns nothing."""

    def __init__(self, text):
        self.lines, self.at = text.split("\n")[:-1], 0

    def line(self):
        if self.at == len(self.lines):
            raise Misfit(self.at)
        return self.lines[self.at]

    def take(self, pattern):
        found = re.fullmatch(pattern, self.line())
        if not found:
            raise Misfit(self.at)
        self.at += 1
        return found

    def rows(self):
        while self.at < len(self.lines):
            if SINGLE.fullmatch(self.line()):
                self.at += 1
            elif BLOCK.fullmatch(self.line()):
                self.block()
            else:
                return

    def block(self):
        first = self.line().split(" ")
        self.at += 1
        if first[0] == "do":
            self.cases()
        else:
            self.rows()
        if first[0] == "if":
            self.take("else")
            self.rows()
        if first[0] == "try":
            self.catches()
        self.take("end")

    def cases(self):
        """One case at least, ascending."""
        last = self.take(f"case ({NAME})").group(1)
        self.rows()
        while self.line().startswith("case "):
            now = self.take(f"case ({NAME})").group(1)
            if now <= last:
                raise Misfit(self.at - 1)
            last = now
            self.rows()

    def catches(self):
        while self.line().split(" ")[0] == "catch":
            names = self.take(f"catch(( {NAME})*)").group(1).split(" ")[1:]
            if names != sorted(set(names)):
                raise Misfit(self.at - 1)
            self.rows()
        self.take("always")
        self.rows()

    def program(self):
        self.take("program")
        self.rows()
        self.take("end")
        last = ""
        while self.at < len(self.lines):
            now = self.take(f"procedure ({NAME})").group(1)
            if now <= last:
                raise Misfit(self.at - 1)
            last = now
            self.rows()
            self.take("end")


def misfit(text, is_program=False):
    """The line that NoText tells of a text, or None for a text of rows, or of a program."""
    if not isinstance(text, str) or text and not text.endswith("\n"):
        return 0
    lines = Lines(text)
    try:
        if is_program:
            lines.program()
        else:
            lines.rows()
            if lines.at < len(lines.lines):
                return lines.at
    except Misfit as error:
        return error.line
    return None


LINES = ["do s", "do s of", "case a", "case b", "if p", "else", "loop k", "block k", "try", "catch", "catch e f", "always", "end",
         "mark u", "leave k", "again k", "raise e", "stop w", "call n", "program", "procedure n", "procedure z"]
ODD_LINES = ["", " ", "mark", "mark u v", "mark  u", "mark u ", " mark u", "mark U", "mark u1", "mark abcdefghi", "do s on", "do s of a",
             "case", "case a b", "catch f e", "catch e e", "catch E", "catch ", "else p", "end end", "End", "loop", "try t", "always e",
             "do", "do of of", "do of", "if", "goto k", "procedure", "procedure N", "program p", "never p yes"]


def torn_texts(luck, text):
    """Texts like one, with lines left out, put in, exchanged, or cut off."""
    lines = text.split("\n")[:-1]
    found = ["".join(line + "\n" for line in lines[:at]) for at in range(len(lines))]
    for _ in range(6):
        some = list(lines)
        for _ in range(luck.choice([1, 1, 2])):
            at = luck.randrange(len(some) + 1)
            what = luck.randrange(4)
            if what == 0 and at < len(some):
                some.pop(at)
            elif what == 1:
                some.insert(at, luck.choice(LINES))
            elif what == 2:
                some.insert(at, luck.choice(ODD_LINES))
            elif at + 1 < len(some):
                some[at], some[at + 1] = some[at + 1], some[at]
        found.append("".join(line + "\n" for line in some))
    return found
