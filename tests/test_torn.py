"""Torn logs: their form, what fits them, and which are lesser."""

import unittest
from itertools import product

import samples
import watching
from checks import forms
from fourfaces.laying import machine_of
from fourfaces.programs import Program
from fourfaces.sheets import Sheet
from fourfaces.torn import is_torn, lesser, log_fits, run_fits

BARE = Sheet([], [("p", [])], [])
FORK = machine_of(Program(BARE, (("if", "p", (("mark", "a"),), (("mark", "b"),)), ("mark", "c"))))
WATCH = ("a", "b", "c")


def words_up_to(watch, longest):
    return [list(words) for many in range(longest + 1) for words in product(watch, repeat=many)]


class Forms(unittest.TestCase):
    def test_what_is_torn(self):
        right = [[], (), ["a"], ("c", "a"), ["?"], ["*"], ["*", "*", "*"], ["?"] * 10, ["a"] * 10, ["*", "a", "?", "*", "b", "*"],
                 tuple("?*a?*b?*c?")]
        for thing in right:
            self.assertIs(is_torn(WATCH, thing), True)
        wrong = [["x"], ["A"], ["?"] * 11, ["*"] * 4, ["*", "a"] * 4, "a", "*", ["**"], [""], [None], [0], [True], [["a"]], [("a",)],
                 {"a": "b"}, {}, None, ["a", "x"], [" "], ["a b"], ["??"], 0, ["*"] * 3 + ["a"] * 8, [WATCH], ["a\n"]]
        for thing in wrong:
            self.assertIs(is_torn(WATCH, thing), False)
        for thing in samples.ODDITIES:
            right = isinstance(thing, (list, tuple)) and all(isinstance(part, str) and part in ("a", "b", "c") for part in thing)
            self.assertIs(is_torn(WATCH, thing), right)

    def test_an_empty_watch(self):
        for thing in ([], ["?"], ["*", "?"]):
            self.assertIs(is_torn((), thing), True)
        self.assertIs(is_torn((), ["a"]), False)

    def test_twisted(self):
        torn = ["*", "a", "?", "*"]
        for thing in samples.twisted(torn):
            right = isinstance(thing, (list, tuple)) and len(thing) <= 10 and list(thing).count("*") <= 3
            right = right and all(isinstance(part, str) and part in ("a", "b", "c", "?", "*") for part in thing)
            self.assertIs(is_torn(WATCH, thing), right)


class Fits(unittest.TestCase):
    def test_the_example(self):
        self.assertIs(log_fits(WATCH, ["*", "c"], ["a", "c"]), True)
        self.assertIs(lesser(WATCH, ["?", "c"], ["*"]), True)
        self.assertIs(lesser(WATCH, ["*"], ["?", "c"]), False)

    def test_the_edges(self):
        for torn, words, told in [([], [], True), ([], ["a"], False), (["?"], [], False), (["?"], ["b"], True), (["?"], ["a", "b"], False),
                                  (["*"], [], True), (["*"], ["a"] * 300, True), (["a"], ["a"], True), (["a"], ["b"], False),
                                  (["*", "*"], [], True), (["*", "?"], [], False), (["?", "*"], ["a"], True), (["a", "*", "a"], ["a"], False),
                                  (["a", "*", "a"], ["a", "a"], True), (("*", "a", "b", "*"), ["a", "a", "b"], True),
                                  (("*", "a", "b", "*"), ["b", "a"], False), (["*", "a", "?"], ["a", "a", "a"], True)]:
            self.assertIs(log_fits(WATCH, torn, words), told)

    def test_compared_with_the_definition(self):
        seen = {True: 0, False: 0}
        for seed in range(200):
            luck = samples.dice(seed)
            torn = [luck.choice("ab??") for _ in range(luck.randint(0, 4))]
            for _ in range(luck.randint(0, 3)):
                torn.insert(luck.randint(0, len(torn)), "*")
            for words in words_up_to(("a", "b"), 4):
                told = watching.fits(torn, words)
                self.assertIs(log_fits(("a", "b"), torn, words), told)
                self.assertIs(log_fits(("a", "b"), tuple(torn), words), told)
                seen[told] += 1
        self.assertGreater(min(seen.values()), 1000)

    def test_run_fits(self):
        for watch in [(), ("a",), ("b", "c"), WATCH]:
            for run in ([0, 1, 3, 4], [0, 2, 3, 4]):
                for torn in ([], ["?"], ["*"], ["*", "?"], ["?", "?"], ["*", "c"], ["a"], ["a", "*"], ["a", "c"], ["?", "?", "?"]):
                    if is_torn(watch, torn):
                        told = watching.fits(torn, watching.log(FORK, watch, run))
                        self.assertIs(run_fits(FORK, watch, torn, run), told)
        self.assertIs(run_fits(FORK, WATCH, ["a", "c"], [0, 1, 3, 4]), True)
        self.assertIs(run_fits(FORK, ("a", "b"), ["a"], [0, 1, 3, 4]), True)

    def test_what_is_handed_in_stays(self):
        torn, words = ["*", "a"], ["b", "a"]
        log_fits(WATCH, torn, words)
        lesser(WATCH, torn, torn)
        self.assertEqual(forms([torn, words]), forms([["*", "a"], ["b", "a"]]))


class Lesser(unittest.TestCase):
    def test_the_edges(self):
        for one, other, told in [([], [], True), ([], ["*"], True), (["*"], [], False), (["?"], ["?", "*"], True), (["?", "*"], ["*", "?"], True),
                                 (["*", "?", "*"], ["*", "?"], True), (["*", "*"], ["*"], True), (["a"], ["?"], True), (["?"], ["a"], False),
                                 (["a", "*", "b"], ["a", "*"], True), (["*", "a", "*"], ["*", "?"], True), (["*", "?"], ["*", "a", "*"], False),
                                 (["a", "b"], ["b", "a"], False), (["?"] * 10, ["*"], True), (["?"] * 10, ["*"] + ["?"] * 9, True)]:
            self.assertIs(lesser(WATCH, one, other), told)

    def test_watches_with_one_word_or_none(self):
        self.assertIs(lesser(("a",), ["?"], ["a"]), True)
        self.assertIs(lesser(("a",), ["*", "?"], ["a", "*"]), True)
        self.assertIs(lesser((), ["?"], []), True)
        self.assertIs(lesser((), ["*"], []), True)
        self.assertIs(lesser((), ["*"], ["?"]), False)
        self.assertIs(lesser((), ["*", "?"], ["?", "?"]), True)

    def test_compared_with_all_logs(self):
        seen = {True: 0, False: 0}
        logs = words_up_to(("a", "b"), 7)
        for seed in range(400):
            luck = samples.dice(seed)
            pair = []
            for _ in range(2):
                torn = [luck.choice("ab?") for _ in range(luck.randint(0, 3))]
                for _ in range(luck.randint(0, 2)):
                    torn.insert(luck.randint(0, len(torn)), "*")
                pair.append(torn)
            one, other = pair
            told = all(watching.fits(other, words) for words in logs if watching.fits(one, words))
            self.assertIs(lesser(("a", "b"), one, other), told)
            seen[told] += 1
        self.assertGreater(min(seen.values()), 50)

    def test_greatest_size(self):
        one = ["*", "a", "?", "*", "?", "b", "*", "?", "a", "b"]
        self.assertIs(lesser(tuple("abcdef"), one, one), True)
        self.assertIs(lesser(tuple("abcdef"), one, ["*", "?", "?", "*", "?", "?", "*", "?", "?", "?"]), True)
        self.assertIs(lesser(tuple("abcdef"), ["*", "?", "?", "*", "?", "?", "*", "?", "?", "?"], one), False)


if __name__ == "__main__":
    unittest.main()
