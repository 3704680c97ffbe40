"""Lots of words: the least and the greatest watches, and the words that are needed."""

import unittest
from itertools import combinations

import samples
from checks import forms
from fourfaces.laying import machine_of
from fourfaces.lots import fewest_words, greatest_silent, least_telling, needed_words
from fourfaces.machines import Machine
from fourfaces.programs import Program
from fourfaces.sheets import Sheet
from fourfaces.watches import tells_beginnings, tells_runs

BARE = Sheet([], [("p", [])], [])
SHEET = Sheet(["c"], [("p", ["c"])], [("s", ["c"], ["bad", "ok"])])
END = ("out", ("end",))
FORK = machine_of(Program(BARE, (("if", "p", (("mark", "a"),), (("mark", "b"),)), ("mark", "c"))))
TELLS = {"runs": tells_runs, "beginnings": tells_beginnings}


def watches(machine):
    words = machine.marks()
    return [watch for many in range(len(words) + 1) for watch in combinations(words, many)]


class Lots(unittest.TestCase):
    def check(self, machine, way):
        tells = {watch: TELLS[way](machine, watch) for watch in watches(machine)}
        telling = [watch for watch in tells if tells[watch]]
        silent = [watch for watch in tells if not tells[watch]]
        least = sorted(one for one in telling if not any(set(other) < set(one) for other in telling))
        greatest = sorted(one for one in silent if not any(set(other) > set(one) for other in silent))
        self.assertEqual(forms(least_telling(machine, way)), forms(least))
        self.assertEqual(forms(greatest_silent(machine, way)), forms(greatest))
        self.assertEqual(forms(fewest_words(machine, way)), forms(min(map(len, telling), default=None)))
        needed = [word for word in machine.marks() if all(word in watch for watch in telling)]
        self.assertEqual(forms(needed_words(machine, way)), forms(needed))
        for one in least:
            self.assertTrue(all(set(one) - set(other) for other in greatest))
        return least

    def test_the_example(self):
        told = [least_telling(FORK, "runs"), greatest_silent(FORK, "runs"), fewest_words(FORK, "runs"), needed_words(FORK, "runs")]
        self.assertEqual(forms(told), forms([[("a",), ("b",)], [("c",)], 1, []]))
        for way in TELLS:
            self.check(FORK, way)

    def test_none_tells(self):
        machine = Machine(BARE, [("ask", "p", 1, 2), ("mark", "a", 3), ("mark", "a", 3), ("mark", "b", 4), END])
        for way in TELLS:
            self.assertEqual([least_telling(machine, way), greatest_silent(machine, way)], [[], [("a", "b")]])
            self.assertEqual([fewest_words(machine, way), needed_words(machine, way)], [None, ["a", "b"]])
            self.check(machine, way)

    def test_no_word_is_needed(self):
        machine = Machine(BARE, [("mark", "a", 1), ("mark", "b", 2), END])
        for way in TELLS:
            self.assertEqual([least_telling(machine, way), greatest_silent(machine, way)], [[()], []])
            self.assertEqual([fewest_words(machine, way), needed_words(machine, way)], [0, []])

    def test_no_marks(self):
        for points, tells in (([END], True), ([("round",)], None), ([("ask", "p", 1, 2), END, ("out", ("stop", "w"))], False)):
            machine = Machine(BARE, points)
            told = [least_telling(machine, "runs"), greatest_silent(machine, "runs"), fewest_words(machine, "runs"),
                    needed_words(machine, "runs")]
            self.assertEqual(told, [[], [()], None, []] if tells is False else [[()], [], 0, []])
            told = [least_telling(machine, "beginnings"), greatest_silent(machine, "beginnings")]
            self.assertEqual(told, [[], [()]] if tells is None else [[()], []])
            for way in TELLS:
                self.check(machine, way)

    def test_a_word_that_is_needed(self):
        points = [("ask", "p", 1, 2), ("mark", "a", 3), ("mark", "b", 3), ("do", "s", (("bad", 4), ("ok", 5))), ("mark", "c", 5), END]
        machine = Machine(SHEET, points)
        for way in TELLS:
            self.assertEqual(least_telling(machine, way), [("a", "c"), ("b", "c")])
            self.assertEqual(greatest_silent(machine, way), [("a", "b"), ("c",)])
            self.assertEqual([fewest_words(machine, way), needed_words(machine, way)], [2, ["c"]])

    def test_random_machines(self):
        least = {way: set() for way in TELLS}
        for seed in range(300):
            luck = samples.dice(seed)
            sheet = samples.random_sheet(luck, 2, 2)
            machine = samples.lively_machine(luck, sheet, luck.choice([3, 5, 8]), seed % 4 > 0)
            for way in TELLS:
                least[way].add(len(self.check(machine, way)))
        for way in TELLS:
            self.assertGreaterEqual(len(least[way]), 2)

    def test_six_words(self):
        points = []
        for at in range(12):
            points.append(("do", "s", (("bad", 3 * at + 1), ("ok", 3 * at + 2))))
            words = "abcdef"[2 * at % 6:2 * at % 6 + 2]
            points += [("mark", words[0], 3 * at + 3), ("mark", words[1], 3 * at + 3)]
        machine = Machine(SHEET, points + [END])
        self.assertEqual(len(machine), 37)
        for way in TELLS:
            self.assertEqual(fewest_words(machine, way), 4)
            self.check(machine, way)

    def test_what_is_told_is_new(self):
        least_telling(FORK, "runs").clear()
        greatest_silent(FORK, "runs").clear()
        needed_words(FORK, "runs").append("x")
        told = [least_telling(FORK, "runs"), greatest_silent(FORK, "runs"), needed_words(FORK, "runs")]
        self.assertEqual(told, [[("a",), ("b",)], [("c",)], []])


if __name__ == "__main__":
    unittest.main()
