"""Mending: kinds of lines, mends of torn texts, what they cost, and floors."""

import unittest
from itertools import product

import samples
import texts
from checks import forms
from fourfaces.errors import NoText
from fourfaces.mending import closes, cost, fewest, floor, is_floor, is_mend, kind_of, mend, mended
from fourfaces.notation import show_rows
from fourfaces.readers import read_rows

# one line of each kind, and one of none
LINES = {"single": "mark u", "of": "do s of", "case": "case a", "if": "if p", "else": "else", "open": "loop k", "try": "try",
         "catch": "catch e", "always": "always", "end": "end", None: "what"}
PARTS = ("rows", "end", "else", "first", "case", "always")
INNER = {"open": "end", "if": "else", "of": "first", "try": "always"}


def text_of(kinds):
    return "".join(LINES[kind] + "\n" for kind in kinds)


def ends_of(kinds, at):
    """All places to which rows lead from a place on, by the grammar of the document."""
    found, left = set(), [at]
    while left:
        place = left.pop()
        if place not in found:
            found.add(place)
            left += [later for later in row_ends(kinds, place)]
    return found


def row_ends(kinds, at):
    if at >= len(kinds):
        return set()
    kind = kinds[at]
    if kind == "single":
        return {at + 1}
    if kind == "open":
        return then(kinds, ends_of(kinds, at + 1), "end")
    if kind == "if":
        middle = then(kinds, ends_of(kinds, at + 1), "else")
        return then(kinds, {end for place in middle for end in ends_of(kinds, place)}, "end")
    if kind == "of":
        return then(kinds, parts(kinds, {at + 1}, "case"), "end")
    if kind == "try":
        middle = then(kinds, parts(kinds, ends_of(kinds, at + 1), "catch"), "always")
        return then(kinds, {end for place in middle for end in ends_of(kinds, place)}, "end")
    return set()


def then(kinds, places, kind):
    return {place + 1 for place in places if place < len(kinds) and kinds[place] == kind}


def parts(kinds, places, kind):
    """The places behind any number of cases, or of catches, with rows."""
    found, left = set(), set(places)
    while left - found:
        place = sorted(left - found)[0]
        found.add(place)
        for later in then(kinds, {place}, kind):
            left |= ends_of(kinds, later)
    return found


def kinds_close(kinds):
    return len(kinds) in ends_of(kinds, 0)


def cheapest(kinds, most):
    """The least cost of a mend, by trying all strikes and all lines put in, or None if it is more than most."""
    level, seen = {tuple(kinds)}, set()
    for many in range(most + 1):
        if any(kinds_close(some) for some in level):
            return many
        seen |= level
        later = set()
        for some in level:
            later |= {some[:at] + some[at + 1:] for at in range(len(some))}
            later |= {some[:at] + (word,) + some[at:] for at in range(len(some) + 1) for word in ("end", "else", "always")}
        level = later - seen
    return None


def bounds(numbers, kinds, key):
    """All that the number of a key is at most, in the words of the document."""
    part, begin, end = key
    found = []
    if begin < end:
        found.append(1 + numbers[part, begin + 1, end])
        kind = kinds[begin]
        if part != "first":
            if kind == "single":
                found.append(numbers[part, begin + 1, end])
            if kind in INNER:
                found += [numbers[INNER[kind], begin + 1, m] + numbers[part, m, end] for m in range(begin + 1, end + 1)]
        if part in ("first", "case") and kind == "case":
            found.append(numbers["case", begin + 1, end])
        if part == "else" and kind == "else":
            found.append(numbers["end", begin + 1, end])
        if part == "always" and kind == "catch":
            found.append(numbers["always", begin + 1, end])
        if part == "always" and kind == "always":
            found.append(numbers["end", begin + 1, end])
        if part in ("end", "first", "case") and end == begin + 1 and kind == "end":
            found.append(0)
    else:
        found += {"rows": [0], "end": [1], "first": [1], "case": [1]}.get(part, [])
    if part in ("else", "always"):
        found.append(1 + numbers["end", begin, end])
    return found


def keys(many):
    return [(part, begin, end) for part in PARTS for begin in range(many + 1) for end in range(begin, many + 1)]


def random_kinds(luck, most):
    return [luck.choice(list(LINES)) for _ in range(luck.randint(0, most))]


class Kinds(unittest.TestCase):
    def test_lines(self):
        single = ["do s", "do of", "mark w", "leave l", "again l", "raise e", "stop w", "call n", "mark end", "call abcdefgh"]
        told = {line: "single" for line in single}
        told.update({"do s of": "of", "do of of": "of", "case bad": "case", "case case": "case", "if p": "if", "else": "else", "loop l": "open",
                     "block l": "open", "try": "try", "catch": "catch", "catch e": "catch", "catch e f": "catch", "always": "always", "end": "end"})
        for line, kind in told.items():
            self.assertEqual(kind_of(line), kind, line)
        for line in texts.ODD_LINES + ["do", "mark", "do s of of", "mark u of", "if p of", "do S of", "do s1 of", "do S", "do s OF", "else ", " end", "end\n", "", "program", "procedure n", "block",
                                       "case", "if p q", "try e", "raise", "cell c", "Mark w", "mark w1", "catch E", "catch  e", "catch e "]:
            if line not in ("do of", "do of of", "catch f e", "catch e e"):
                self.assertIsNone(kind_of(line), line)

    def test_names_and_their_order_do_not_matter(self):
        self.assertEqual([kind_of("catch f e"), kind_of("catch e e")], ["catch", "catch"])
        self.assertIs(closes("do s of\ncase b\ncase a\nend\n"), True)

    def test_closing(self):
        for text in ("", "mark u\n", "loop k\nend\n", "if p\nelse\nend\n", "do s of\nend\n", "do s of\ncase a\nmark u\ncase a\nend\nmark u\n",
                     "try\nalways\nend\n", "try\nmark u\ncatch\nmark u\ncatch e\nalways\nmark u\nend\n"):
            self.assertIs(closes(text), True, text)
        for text in ("end\n", "loop k\n", "if p\nend\n", "do s of\nmark u\nend\n", "try\nend\n", "try\nalways\ncatch\nend\n", "mark\n", "\n", "else\n",
                     "if p\nelse\nelse\nend\n", "do s of\nloop k\nend\nend\n", "case a\n", "program\nend\n", "loop k\nend\nend\n", "loop k\ncase a\nend\n"):
            self.assertIs(closes(text), False, text)

    def test_all_short_texts(self):
        closing = 0
        for many in range(4):
            for kinds in product(LINES, repeat=many):
                self.assertIs(closes(text_of(kinds)), kinds_close(kinds), kinds)
                closing += kinds_close(kinds)
        self.assertGreater(closing, 10)
        for seed in range(400):
            kinds = random_kinds(samples.dice(seed), 12)
            self.assertIs(closes(text_of(kinds)), kinds_close(kinds))

    def test_texts_of_rows_close(self):
        for seed in range(60):
            luck = samples.dice(seed)
            text = show_rows(samples.small_program(luck, samples.random_sheet(luck, 2, 2)).rows())
            self.assertIs(closes(text), True)
            for torn in texts.torn_texts(luck, text):
                self.assertIs(closes(torn), kinds_close([kind_of(line) for line in torn.split("\n")[:-1]]))


class Mends(unittest.TestCase):
    def test_is_mend(self):
        text = "loop k\nmark u\nwhat\n"
        good = [["keep", "keep", "strike", "end"], ["strike"] * 3, ["strike", "keep", "strike"], ["keep", "end", "keep", "strike"],
                ["strike", "strike", "strike"], ["keep", "strike", "end", "strike"]]
        for some in good:
            self.assertIs(is_mend(text, some), True, some)
        bad = [["keep", "keep", "keep", "end"], ["keep", "keep", "strike"], ["keep", "keep", "strike", "else", "end"], ["keep", "keep", "end"],
               ["keep", "keep", "strike", "end", "strike"], ["end", "strike", "strike", "strike"], [], ["keep", "keep", "strike", "try"],
               ["keep", "keep", "strike", None], ["keep", "keep", "strike", ["end"]], ("keep", "keep", "strike", "end"), "keep", {"keep": 1}]
        for thing in bad + samples.ODDITIES:
            self.assertIs(is_mend(text, thing), False, thing)
        for thing in samples.twisted(good[0]):
            self.assertIs(is_mend(text, thing), thing in (good[0], ["keep", "keep", "end", "strike"]), thing)
        self.assertIs(is_mend("", []), True)
        self.assertIs(is_mend("", ["end"]), False)

    def test_cost_and_mended(self):
        text, some = "if p\nmark u\nwhat\n", ["keep", "else", "keep", "strike", "end"]
        self.assertIs(is_mend(text, some), True)
        self.assertEqual(forms(cost(some)), forms(3))
        self.assertEqual(mended(text, some), "if p\nelse\nmark u\nend\n")
        self.assertEqual(forms([cost([]), mended("", []), cost(["keep"] * 4)]), forms([0, "", 0]))
        self.assertEqual(mended("try\n", ["keep", "always", "end"]), "try\nalways\nend\n")

    def test_texts_that_close(self):
        for text in ("", "mark u\n", "loop k\nend\n"):
            self.assertEqual(forms([fewest(text), mend(text)]), forms([0, ["keep"] * text.count("\n")]))

    def test_what_it_costs(self):
        for text, least in (("end\n", 1), ("loop k\n", 1), ("if p\n", 1), ("if p\nmark u\nelse\n", 1), ("try\nmark u\nend\n", 1), ("what\n", 1),
                            ("if p\nmark u\nmark v\n", 1), ("do s of\nmark u\nend\n", 1), ("do s of\ncase a\n", 1), ("loop k\n" * 3, 3),
                            ("case a\nmark u\n", 1), ("try\ncatch e\nmark u\n", 2), ("if p\nmark u\nend\nend\n", 2), ("if p\nend\n", 1)):
            self.assertEqual(forms(fewest(text)), forms(least), text)

    def test_all_short_texts(self):
        for many in range(4):
            for kinds in product(LINES, repeat=many):
                self.check(kinds, cheapest(kinds, 3))

    def test_random_texts(self):
        costs = set()
        for seed in range(150):
            kinds = random_kinds(samples.dice(seed), 6)
            least = cheapest(kinds, 3)
            self.check(kinds, least)
            costs.add(least)
        self.assertEqual(costs, {0, 1, 2, 3, None})

    def check(self, kinds, least):
        """least is what it costs at the least, or None if that is more than three."""
        text = text_of(kinds)
        some = mend(text)
        self.assertIs(is_mend(text, some), True)
        self.assertTrue(kinds_close([kind_of(line) for line in mended(text, some).split("\n")[:-1]]))
        self.assertEqual(cost(some), fewest(text))
        if least is None:
            self.assertGreater(fewest(text), 3)
        else:
            self.assertEqual(forms(fewest(text)), forms(least))

    def test_sixteen_lines(self):
        for seed in range(12):
            luck = samples.dice(seed)
            kinds = [luck.choice(list(LINES)) for _ in range(16)]
            text = text_of(kinds)
            some = mend(text)
            self.assertTrue(is_mend(text, some) and cost(some) == fewest(text) and is_floor(text, floor(text)))
            self.assertEqual(floor(text)["rows", 0, 16], fewest(text))

    def test_a_mended_text_can_be_read_again(self):
        text = "loop k\ndo s of\ncase a\nmark u\nif p\nwhat\ncase b\nend\n"
        self.assertEqual(fewest(text), 3)
        with self.assertRaises(NoText):
            read_rows(text)
        self.assertEqual(len(read_rows(mended(text, mend(text)))), 1)

    def test_what_is_told_is_new(self):
        mend("end\n").clear()
        floor("end\n").clear()
        self.assertEqual([len(mend("end\n")), len(floor("end\n"))], [1, 18])


class Floors(unittest.TestCase):
    def test_the_empty_text(self):
        told = {("always", 0, 0): 2, ("case", 0, 0): 1, ("else", 0, 0): 2, ("end", 0, 0): 1, ("first", 0, 0): 1, ("rows", 0, 0): 0}
        self.assertEqual(forms(floor("")), forms(told))
        self.assertEqual(list(floor("")), sorted(told))

    def test_the_greatest_floor(self):
        """Each number is just the least of its bounds, so none can be greater."""
        for seed in range(80):
            kinds = random_kinds(samples.dice(seed), 7)
            text = text_of(kinds)
            found = floor(text)
            self.assertEqual(list(found), sorted(keys(len(kinds))))
            for key in found:
                self.assertEqual(forms(found[key]), forms(min(bounds(found, kinds, key))), (kinds, key))
            self.assertIs(is_floor(text, found), True)
            self.assertEqual(found["rows", 0, len(kinds)], fewest(text))

    def test_numbers_that_are_greater_or_less(self):
        for kinds in (["open"], ["if", "single"], ["try", None, "end"], ["of", "case", "end"]):
            text = text_of(kinds)
            found = floor(text)
            for key in found:
                self.assertIs(is_floor(text, {**found, key: found[key] + 1}), False, key)
                less = {**found, key: found[key] - 1}
                wanted = all(less[other] <= bound for other in less for bound in bounds(less, kinds, other))
                self.assertIs(is_floor(text, less), wanted)
            self.assertIs(is_floor(text, {key: 0 for key in found}), True)
            self.assertIs(is_floor(text, {key: -5 for key in found}), all(
                -5 <= bound for key in found for bound in bounds({one: -5 for one in found}, kinds, key)))
            self.assertIs(is_floor(text, {key: 10 ** 59 for key in found}), False)

    def test_keys_in_any_order(self):
        text = "if p\nmark u\nend\n"
        found = floor(text)
        self.assertIs(is_floor(text, {key: found[key] for key in reversed(list(found))}), True)

    def test_wrong_values(self):
        text = "if p\nend\n"
        found = floor(text)
        for thing in samples.ODDITIES:
            self.assertIs(is_floor(text, thing), False)
            self.assertIs(is_floor(text, {**found, ("rows", 0, 0): thing}), isinstance(thing, int) and not isinstance(thing, bool) and thing <= 0)
        for key in found:
            rest = {other: found[other] for other in found if other != key}
            self.assertIs(is_floor(text, rest), False)
            self.assertIs(is_floor(text, {**rest, key: None}), False)
            for other in [("rows", 0, 3), ("rows", 1, 0), ("what", 0, 0), "rows", ("rows", 0), (None, 0, 0), ("rows", -1, 0), None]:
                self.assertIs(is_floor(text, {**rest, other: 0}), False)
        self.assertIs(is_floor(text, {**found, ("rows", 0, 3): 0}), False)
        self.assertIs(is_floor("if p\n", found), False)
        self.assertIs(is_floor(text, list(found.items())), False)

    def test_a_truth_is_no_number(self):
        found = floor("")
        self.assertIs(is_floor("", {**found, ("end", 0, 0): True}), False)
        self.assertIs(is_floor("", {**found, ("rows", 0, 0): False}), False)
        rest = {key: found[key] for key in found if key != ("rows", 0, 0)}
        for key in (("rows", False, 0), ("rows", 0, False), ("rows", False, False)):
            self.assertIs(is_floor("", {**rest, key: 0}), False)
        self.assertIs(is_floor("", {**rest, ("rows", 0, 0): 0}), True)

    def test_no_floor_tells_more_than_it_costs(self):
        for seed in range(60):
            luck = samples.dice(seed)
            kinds = random_kinds(luck, 4)
            found = {key: luck.randint(-1, 2) for key in keys(len(kinds))}
            wanted = all(found[key] <= bound for key in found for bound in bounds(found, kinds, key))
            self.assertIs(is_floor(text_of(kinds), found), wanted)
            lowered = dict(floor(text_of(kinds)))
            for key in luck.sample(list(lowered), 3):
                lowered[key] -= luck.randint(0, 2)
            if is_floor(text_of(kinds), lowered):
                self.assertLessEqual(lowered["rows", 0, len(kinds)], fewest(text_of(kinds)))


if __name__ == "__main__":
    unittest.main()
