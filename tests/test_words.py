import unittest

import samples
from fourfaces.sheets import Sheet
from fourfaces.words import are_names, is_exit, is_fact, is_integer, is_name, is_truth, is_way

ALL = [is_integer, is_truth, is_name, are_names, is_fact, is_way, is_exit]


class Words(unittest.TestCase):
    def check(self, tells, right, wrong):
        for thing in right:
            with self.subTest(right=repr(thing)):
                self.assertIs(tells(thing), True)
        for thing in wrong:
            with self.subTest(wrong=repr(thing)):
                self.assertIs(tells(thing), False)

    def test_integers(self):
        wrong = [True, False, None, "0", "", (0,), [0], {0: 0}]
        self.check(is_integer, [0, 1, -1, 2, 10 ** 59, -10 ** 59], wrong)

    def test_truths(self):
        self.check(is_truth, [True, False], [0, 1, -1, None, "", "True", (), [], (True,), [True]])

    def test_names(self):
        right = ["a", "z", "abcdefgh", "on", "end", "aa"]
        wrong = ["", "abcdefghi", "A", "aB", "a1", "1", "a b", " a", "a ", "a\n", "\n", "a_b", "a-b", "`", "{", "~"]
        self.check(is_name, right, wrong + [None, 0, True, ("a",), ["a"], {"a": "a"}, list("abc"), ()])

    def test_tuples_of_names(self):
        right = [(), ("a",), ("a", "b"), ("a", "ab", "b"), ("aa", "ab", "z")]
        wrong = [[], ["a"], ["a", "b"], ("b", "a"), ("a", "a"), ("a", "c", "b"), ("a", "b", "b"), ("a", 0),
                 ("a", ""), ("A",), (("a",),), "a", "ab", "", {}, None, {"a": "b"}, (True,), ("a", None)]
        self.check(are_names, right, wrong)

    def test_never_facts(self):
        right = [("never", (("p", True),)), ("never", (("p", False), ("q", True))),
                 ("never", (("a", True), ("b", True), ("c", False)))]
        wrong = [("never", ()), ("never",), ("never", (("p", 1),)), ("never", (("p", 0),)), ("never", ("p", True)),
                 ("never", (("q", True), ("p", True))), ("never", (("p", True), ("p", True))),
                 ("never", (("p", True), ("p", False))), ("never", [("p", True)]), ("never", (["p", True],)),
                 ["never", (("p", True),)], ("never", (("p", True),), ()), ("Never", (("p", True),)),
                 ("never", (("P", True),)), ("never", (("p", True, True),)), ("never", (("p",),)), ("never", ((),)),
                 ("never", (("p", None),)), ("never", None), ("never", "p"), ("never", (("", True),)),
                 ("never", (("p", False), ("r", True), ("q", True))), ("never", (("p", True), ("q", 1))),
                 ("never", (("p", 0), ("q", True))), ("never", (("p", True), ("q", True), ["r", True])),
                 ("never", (("p", True), ("Q", True))), ("never", (("p", True), None))]
        self.check(is_fact, right, wrong)

    def test_after_facts(self):
        right = [("after", "s", "o", "p", True), ("after", "s", "s", "s", False), ("after", "after", "on", "p", True)]
        wrong = [("after", "s", "o", "p", 1), ("after", "s", "o", "p", 0), ("after", "s", "o", "p"), ("after",),
                 ("after", "s", "o", "p", True, True), ["after", "s", "o", "p", True], ("after", "", "o", "p", True),
                 ("after", "s", "O", "p", True), ("after", "s", "o", 0, True), ("after", "s", "o", "p", None),
                 ("after", "s", None, "p", True), ("after", ("s",), "o", "p", True), ("after", (("p", True),)),
                 ("never", "s", "o", "p", True), ("s", "o", "p", True), ("before", "s", "o", "p", True),
                 ("after", "s", "abcdefghi", "p", True), (True, "s", "o", "p", True)]
        self.check(is_fact, right, wrong)

    def test_ways(self):
        right = [("on",), ("leave", "l"), ("again", "l"), ("raise", "e"), ("stop", "w"), ("stop", "abcdefgh")]
        wrong = [("end",), ("on", "l"), ("leave",), ("again",), ("raise",), ("stop",), ("leave", "L"), ("raise", ""),
                 ("stop", "w", "w"), ("leave", None), ("again", 0), ("raise", ("e",)), ("mark", "w"), ("call", "n"),
                 ["on"], ["raise", "e"], "on", (), ("On",), ("ON",), (None,), (("on",),), ("stop", ["w"]), ("out",),
                 (0,), (True, "e"), ("go", "e"), (["raise"], "e"), ({}, "e")]
        self.check(is_way, right, wrong)

    def test_exits(self):
        right = [("end",), ("raise", "e"), ("stop", "w")]
        wrong = [("on",), ("leave", "l"), ("again", "l"), ("end", "e"), ("raise",), ("stop",), ("raise", "E"),
                 ("stop", ""), ("raise", "e", "f"), ["end"], ["raise", "e"], "end", (), ("End",), (("end",),),
                 ("stop", 0), ("raise", None), (None,), (["stop"], "w"), ("out", ("end",)), (0,), ("never",)]
        self.check(is_exit, right, wrong)

    def test_any_value_is_taken(self):
        sheet = Sheet([], [], [])
        for tells in ALL:
            for thing in samples.ODDITIES + [sheet, [sheet], (sheet,), ("never", sheet), ("after", sheet)]:
                with self.subTest(tells=tells.__name__, thing=repr(thing)):
                    self.assertIs(type(tells(thing)), bool)

    def test_deep_and_long_values(self):
        deep = ()
        for _ in range(29):
            deep = (deep,)
        for tells in ALL:
            self.assertIs(tells(deep), False)
            self.assertIs(tells(["a"] * 4999), False)
            self.assertIs(tells("a" * 5000), False)


if __name__ == "__main__":
    unittest.main()
