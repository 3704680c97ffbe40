import unittest

import samples
from checks import forms, raised
from fourfaces.errors import NoRow
from fourfaces.rows import (
    are_rows, bodies, changed, depth, how_many, is_row, names_in, out, paths, put, renamed, row_at, with_bodies,
)
from fourfaces.sheets import Sheet

MARK = ("mark", "w")
STOP = ("stop", "w")
ROWS = (("loop", "l", (("do", "s", (("bad", (("leave", "l"),)),)), ("mark", "w"))), ("stop", "done"))
DO = ("do", "s", (("a", (MARK,)), ("b", ()), ("c", (STOP, MARK))))
IF = ("if", "p", (MARK,), (STOP,))
LOOP = ("loop", "l", (MARK, ("again", "l")))
BLOCK = ("block", "k", (("leave", "k"),))
TRY = ("try", (MARK,), ((("e", "f"), (STOP,)), ((), (DO,)), (("e",), ())), (("raise", "e"), IF))
CALL = ("call", "n")
ALL = (DO, IF, LOOP, BLOCK, TRY, CALL, MARK, STOP, ("raise", "g"), ("try", (), (), ()), ("do", "t", ()))


class Forms(unittest.TestCase):
    def check(self, right, wrong):
        for thing in right:
            with self.subTest(right=repr(thing)):
                self.assertIs(is_row(thing), True)
                self.assertIs(are_rows((thing,)), True)
                self.assertIs(are_rows((("block", "l", (thing, MARK)), MARK)), True)
        for thing in wrong:
            with self.subTest(wrong=repr(thing)):
                self.assertIs(is_row(thing), False)
                self.assertIs(are_rows((thing,)), False)
                self.assertIs(are_rows((MARK, ("block", "l", (MARK, thing)))), False)

    def test_all_kinds(self):
        self.check(list(ALL) + [("leave", "l"), ("again", "l")], [])

    def test_rows_of_one_name(self):
        for kind in ("mark", "leave", "again", "raise", "stop", "call"):
            wrong = [(kind,), (kind, "W"), (kind, ""), (kind, "abcdefghi"), (kind, None), (kind, 0), (kind, ("w",)),
                     (kind, "w", "w"), (kind, "w", ()), [kind, "w"], (kind.upper(), "w"), kind, (kind, ["w"])]
            self.check([(kind, "w"), (kind, "abcdefgh")], wrong)

    def test_dos(self):
        wrong = [("do", "s"), ("do",), ("do", "s", None), ("do", "s", []), ("do", "s", (), ()), ("do", "S", ()),
                 ("do", "s", (("a", ()), ("a", ()))), ("do", "s", (("b", ()), ("a", ()))), ("do", "s", ("a", ())),
                 ("do", "s", (("a", []),)), ("do", "s", (["a", ()],)), ("do", "s", [("a", ())]),
                 ("do", "s", (("a",),)), ("do", "s", (("a", (), ()),)), ("do", "s", (("A", ()),)),
                 ("do", "s", (("a", (None,)),)), ("do", "s", (("a", MARK),)), ("do", 0, ()), ("do", (), ())]
        self.check([("do", "s", ()), ("do", "s", (("a", ()),)), DO], wrong)

    def test_ifs(self):
        wrong = [("if", "p", ()), ("if", "p"), ("if",), ("if", "P", (), ()), ("if", "p", [], ()), ("if", "p", (), []),
                 ("if", "p", (), (), ()), ("if", "p", MARK, ()), ("if", "p", (), MARK), ("if", None, (), ()),
                 ("if", "p", (None,), ()), ("if", "p", (), (0,)), ["if", "p", (), ()], ("if", (), (), ())]
        self.check([("if", "p", (), ()), IF], wrong)

    def test_loops_and_blocks(self):
        for kind in ("loop", "block"):
            wrong = [(kind, "l"), (kind,), (kind, "L", ()), (kind, "l", []), (kind, "l", (), ()), (kind, "l", MARK),
                     (kind, (MARK,)), (kind, 0, ()), (kind, "l", (("mark",),)), [kind, "l", ()], (kind, "l", None)]
            self.check([(kind, "l", ()), (kind, "l", (MARK, MARK))], wrong)

    def test_tries(self):
        right = [("try", (), (), ()), ("try", (), (((), ()),), ()), ("try", (), ((("e",), ()), (("e",), ())), ()), TRY]
        wrong = [("try", (), ()), ("try",), ("try", ()), ("try", (), (), (), ()), ("try", [], (), ()),
                 ("try", (), [], ()), ("try", (), (), []), ("try", MARK, (), ()), ("try", (), (), MARK),
                 ("try", (), (("e", ()),), ()), ("try", (), ((["e"], ()),), ()), ("try", (), (("e",), ()), ()),
                 ("try", (), ((("f", "e"), ()),), ()), ("try", (), ((("e", "e"), ()),), ()),
                 ("try", (), ((("E",), ()),), ()), ("try", (), ((("e",), []),), ()), ("try", (), ((("e",),),), ()),
                 ("try", (), ([("e",), ()],), ()), ("try", (), ((("e",), (), ()),), ()), ("try", (), ((), ()), ()),
                 ("try", (), ((("e",), (None,)),), ()), ("try", "l", (), ()), ("try", (None,), (), ())]
        self.check(right, wrong)

    def test_other_values(self):
        self.check([], samples.ODDITIES + [("end",), ("out", "w"), ("always", ()), ("on",), Sheet([], [], [])])

    def test_rows_are_a_tuple(self):
        self.assertIs(are_rows(()), True)
        self.assertIs(are_rows((MARK, MARK)), True)
        self.assertIs(are_rows(ALL), True)
        for thing in [[], [MARK], None, "", {}, MARK, (MARK, None), ((MARK,),), ([],), 0, True, (MARK, MARK[0])]:
            with self.subTest(thing=repr(thing)):
                self.assertIs(are_rows(thing), False)

    def test_neither_labels_nor_a_sheet_are_asked_for(self):
        self.assertIs(are_rows((("leave", "nowhere"), ("again", "nowhere"), ("call", "nowhere"))), True)
        self.assertIs(are_rows((("do", "any", (("one", ()), ("other", ()))), ("if", "any", (), ()))), True)

    def test_labels_and_names_may_be_words_of_the_language(self):
        self.assertIs(are_rows((("loop", "loop", (("leave", "loop"),)), ("mark", "end"), ("if", "if", (), ()))), True)

    def test_deep_values(self):
        deep, wrong = (), [None]
        for _ in range(14):
            deep, wrong = (("block", "l", deep),), (("block", "l", wrong),)
        self.assertIs(are_rows(deep), True)
        self.assertIs(are_rows(wrong), False)
        self.assertIs(are_rows((MARK,) * 1600), True)

    def test_twisted_rows(self):
        for row in ALL:
            for thing in samples.twisted(row):
                self.assertIs(type(is_row(thing)), bool)
                if is_row(thing):
                    self.assertEqual(forms(with_bodies(thing, bodies(thing))), forms(thing))


class Bodies(unittest.TestCase):
    def test_bodies(self):
        self.assertEqual(bodies(DO), [(MARK,), (), (STOP, MARK)])
        self.assertEqual(bodies(IF), [(MARK,), (STOP,)])
        self.assertEqual(bodies(LOOP), [(MARK, ("again", "l"))])
        self.assertEqual(bodies(BLOCK), [(("leave", "k"),)])
        self.assertEqual(bodies(TRY), [(MARK,), (STOP,), (DO,), (), (("raise", "e"), IF)])
        self.assertEqual(bodies(("try", (), (), ())), [(), ()])
        for row in (CALL, MARK, STOP, ("leave", "l"), ("again", "l"), ("raise", "e"), ("do", "s", ())):
            self.assertEqual(bodies(row), [])

    def test_the_list_is_new(self):
        bodies(IF).append(None)
        bodies(IF)[0] = None
        self.assertEqual(bodies(IF), [(MARK,), (STOP,)])

    def test_with_bodies(self):
        self.assertEqual(with_bodies(DO, [(), (MARK,), (STOP,)]), ("do", "s", (("a", ()), ("b", (MARK,)), ("c", (STOP,)))))
        self.assertEqual(with_bodies(IF, [(), (MARK,)]), ("if", "p", (), (MARK,)))
        self.assertEqual(with_bodies(LOOP, [()]), ("loop", "l", ()))
        self.assertEqual(with_bodies(BLOCK, [(STOP,)]), ("block", "k", (STOP,)))
        self.assertEqual(with_bodies(TRY, [(STOP,), (), (MARK,), (IF,), (CALL,)]),
                         ("try", (STOP,), ((("e", "f"), ()), ((), (MARK,)), (("e",), (IF,))), (CALL,)))
        self.assertEqual(with_bodies(("try", (), (), ()), [(MARK,), (STOP,)]), ("try", (MARK,), (), (STOP,)))
        for row in (CALL, MARK, STOP, ("do", "s", ())):
            self.assertEqual(with_bodies(row, []), row)

    def test_a_row_is_that_with_its_own_bodies(self):
        for row in ALL:
            self.assertEqual(forms(with_bodies(row, bodies(row))), forms(row))

    def test_the_list_passed_stays(self):
        some = [(MARK,), (), (STOP,)]
        with_bodies(DO, some)
        self.assertEqual(some, [(MARK,), (), (STOP,)])


class Counts(unittest.TestCase):
    def test_the_examples(self):
        self.assertEqual([how_many(ROWS), depth(ROWS)], [5, 3])
        self.assertEqual(paths(ROWS), [(0,), (0, 0, 0), (0, 0, 0, 0, 0), (0, 0, 1), (1,)])
        self.assertEqual(row_at(ROWS, (0, 0, 0, 0, 0)), ("leave", "l"))

    def test_no_rows(self):
        self.assertEqual([how_many(()), depth(()), paths(())], [0, 0, []])

    def test_rows_without_rows_in_them(self):
        for row in (MARK, CALL, ("do", "s", ()), ("loop", "l", ()), ("try", (), (), ()), ("if", "p", (), ()),
                    ("do", "s", (("a", ()),))):
            self.assertEqual([how_many((row,)), depth((row,)), paths((row,))], [1, 1, [(0,)]])

    def test_how_many_and_depth(self):
        told = [(DO, 4, 2), (IF, 3, 2), (LOOP, 3, 2), (BLOCK, 2, 2), (TRY, 11, 3), (("block", "l", (TRY, MARK)), 13, 4)]
        for row, many, deep in told:
            self.assertEqual([how_many((row,)), depth((row,))], [many, deep])
            self.assertEqual([how_many((MARK, row, row)), depth((MARK, row, row))], [2 * many + 1, deep])
            self.assertEqual([how_many((row, MARK)), depth((row, MARK))], [many + 1, deep])

    def test_paths_of_each_body(self):
        self.assertEqual(paths((MARK, TRY)), [
            (0,), (1,), (1, 0, 0), (1, 1, 0), (1, 2, 0), (1, 2, 0, 0, 0), (1, 2, 0, 2, 0), (1, 2, 0, 2, 1),
            (1, 4, 0), (1, 4, 1), (1, 4, 1, 0, 0), (1, 4, 1, 1, 0)])

    def test_paths_ascend_and_are_all(self):
        for seed in range(40):
            luck = samples.dice(seed)
            rows = samples.random_program(luck, samples.random_sheet(luck)).rows()
            found = paths(rows)
            self.assertEqual(found, sorted(set(found)))
            self.assertEqual(len(found), how_many(rows))
            self.assertEqual(depth(rows), max([(len(path) + 1) // 2 for path in found], default=0))

    def test_more_than_ten_rows(self):
        rows = (MARK,) * 12
        self.assertEqual(paths(rows), [(at,) for at in range(12)])


class Places(unittest.TestCase):
    def wrong_paths(self, rows):
        found = [thing for thing in samples.ODDITIES if thing not in paths(rows)]
        for path in paths(rows):
            found += [path + (0,), path[:-1], path + (99, 0), path + (0, 99), list(path), path[:-1] + (-1,),
                      path[:-1] + (len(rows) + 50,), path[:-1] + (str(path[-1]),), path[:-1] + (None,),
                      path + (-1, 0), path[:-1] + ((path[-1],),)]
        found += [(True,), (False,), (0, False, 0), (0, 0, False), (0, True, 0), (0, 0, True), (-1,), (0, -1, 0)]
        return found

    def is_begin_of_body(self, rows, path):
        """Whether a path leads to the begin of a body, where a row can be put in even if there is none."""
        if not isinstance(path, tuple) or len(path) < 3 or path[:-2] not in paths(rows) or path[-1] != 0:
            return False
        numbers = range(len(bodies(row_at(rows, path[:-2]))))
        return all(type(part) is int for part in path) and path[-2] in numbers

    def test_row_at(self):
        rows = (DO, TRY, MARK)
        self.assertEqual(row_at(rows, (0,)), DO)
        self.assertEqual(row_at(rows, (2,)), MARK)
        self.assertEqual(row_at(rows, (0, 2, 0)), STOP)
        self.assertEqual(row_at(rows, (0, 2, 1)), MARK)
        self.assertEqual(row_at(rows, (1, 4, 1)), IF)
        self.assertEqual(row_at(rows, (1, 2, 0, 0, 0)), MARK)

    def test_no_such_path(self):
        for rows in (ROWS, (DO, TRY), (), (MARK,)):
            for path in self.wrong_paths(rows):
                for act in (row_at, out, lambda rows, path: changed(rows, path, (MARK,)),
                            lambda rows, path: changed(rows, path, ())):
                    kind, fields = raised(act, rows, path)
                    with self.subTest(rows=rows, path=repr(path)):
                        self.assertIs(kind, NoRow)
                        self.assertIs(fields["path"], path)

    def test_no_such_place(self):
        for rows in (ROWS, (DO, TRY), (MARK,)):
            for path in self.wrong_paths(rows):
                if self.is_begin_of_body(rows, path):
                    continue
                kind, fields = raised(put, rows, path, MARK)
                with self.subTest(rows=rows, path=repr(path)):
                    self.assertIs(kind, NoRow)
                    self.assertIs(fields["path"], path)

    def test_places_behind_the_last_row(self):
        rows = (("block", "l", (MARK, STOP)), MARK)
        for path in [(2,), (0, 0, 2)]:
            self.assertEqual(raised(row_at, rows, path), (NoRow, {"path": path}))
            self.assertEqual(raised(out, rows, path), (NoRow, {"path": path}))
            self.assertEqual(raised(changed, rows, path, ()), (NoRow, {"path": path}))
        for path in [(3,), (0, 0, 3), (2, 0, 0), (0, 1, 0), (1, 0, 0), (0, 0, 2, 0, 0), (0, 0, 0, 0, 0)]:
            self.assertEqual(raised(put, rows, path, CALL), (NoRow, {"path": path}))
        self.assertEqual(put(rows, (2,), CALL), rows + (CALL,))
        self.assertEqual(put(rows, (0, 0, 2), CALL), (("block", "l", (MARK, STOP, CALL)), MARK))

    def test_put(self):
        self.assertEqual(put((), (0,), MARK), (MARK,))
        self.assertEqual(put((STOP, CALL), (0,), MARK), (MARK, STOP, CALL))
        self.assertEqual(put((STOP, CALL), (1,), MARK), (STOP, MARK, CALL))
        self.assertEqual(put((STOP, CALL), (2,), MARK), (STOP, CALL, MARK))
        self.assertEqual(put((IF, CALL), (0, 1, 0), MARK), (("if", "p", (MARK,), (MARK, STOP)), CALL))
        self.assertEqual(put((IF, CALL), (0, 0, 1), IF), (("if", "p", (MARK, IF), (STOP,)), CALL))
        self.assertEqual(put((DO,), (0, 1, 0), MARK), (("do", "s", (DO[2][0], ("b", (MARK,)), DO[2][2])),))
        self.assertEqual(put((("loop", "l", ()),), (0, 0, 0), MARK), (("loop", "l", (MARK,)),))
        self.assertEqual(put((TRY,), (0, 3, 0), MARK)[0][2][2], (("e",), (MARK,)))
        self.assertEqual(put((TRY,), (0, 4, 2), MARK)[0][3], (("raise", "e"), IF, MARK))
        self.assertEqual(put((TRY,), (0, 2, 0, 1, 0), MARK)[0][2][1], ((), (("do", "s", (DO[2][0], ("b", (MARK,)), DO[2][2])),)))

    def test_out(self):
        self.assertEqual(out((MARK,), (0,)), ())
        self.assertEqual(out((MARK, STOP, CALL), (1,)), (MARK, CALL))
        self.assertEqual(out((MARK, STOP, CALL), (2,)), (MARK, STOP))
        self.assertEqual(out((MARK, DO), (1, 2, 0)), (MARK, ("do", "s", (DO[2][0], DO[2][1], ("c", (MARK,))))))
        self.assertEqual(out((TRY,), (0, 0, 0)), (("try", ()) + TRY[2:],))
        self.assertEqual(out(ROWS, (0, 0, 0, 0, 0)), (("loop", "l", (("do", "s", (("bad", ()),)), MARK)), ROWS[1]))

    def test_changed(self):
        self.assertEqual(changed((MARK, STOP), (0,), (CALL, CALL)), (CALL, CALL, STOP))
        self.assertEqual(changed((MARK, STOP), (1,), ()), (MARK,))
        self.assertEqual(changed((MARK, IF), (1, 1, 0), (CALL, MARK)), (MARK, ("if", "p", (MARK,), (CALL, MARK))))
        self.assertEqual(changed((MARK, IF), (1,), (MARK,)), (MARK, MARK))
        self.assertEqual(changed(ROWS, (0, 0, 1), (IF,)), (("loop", "l", (ROWS[0][2][0], IF)), ROWS[1]))

    def test_what_is_changed_comes_back(self):
        for seed in range(30):
            luck = samples.dice(seed)
            rows = samples.random_program(luck, samples.random_sheet(luck)).rows()
            for path in paths(rows):
                row = row_at(rows, path)
                self.assertEqual(put(out(rows, path), path, row), rows)
                self.assertEqual(out(put(rows, path, CALL), path), rows)
                self.assertEqual(row_at(put(rows, path, CALL), path), CALL)
                self.assertEqual(changed(rows, path, (row,)), rows)
                self.assertEqual(changed(rows, path, ()), out(rows, path))
                self.assertEqual(how_many(changed(rows, path, (MARK, IF))), how_many(rows) - how_many((row,)) + 4)


class Names(unittest.TestCase):
    def setUp(self):
        self.rows = (
            ("loop", "l", (("do", "s", (("b", (("leave", "l"), ("mark", "v"))), ("o", ()))), ("mark", "u"))),
            ("block", "k", (("again", "m"), ("raise", "g"), ("call", "n"), ("do", "a", ()))),
            ("try", (("raise", "f"),), ((("c", "e"), (("stop", "z"),)), ((), ()), (("e",), ())),
             (("if", "p", (("stop", "y"),), (("if", "q", (), (("call", "i"),)),)),)),
        )

    def test_names_of_each_kind(self):
        told = {"step": ["a", "s"], "outcome": ["b", "o"], "ask": ["p", "q"], "mark": ["u", "v"],
                "label": ["k", "l", "m"], "error": ["c", "e", "f", "g"], "stop": ["y", "z"], "call": ["i", "n"]}
        for kind, names in told.items():
            with self.subTest(kind):
                self.assertEqual(names_in(self.rows, kind), names)
                self.assertEqual(names_in(self.rows + self.rows, kind), names)
                self.assertEqual(names_in((), kind), [])

    def test_renamed_of_each_kind(self):
        for kind in ("step", "outcome", "ask", "mark", "label", "error", "stop", "call"):
            for other in ("step", "outcome", "ask", "mark", "label", "error", "stop", "call"):
                names = {name: "z" + name for name in names_in(self.rows, kind)}
                told = names_in(renamed(self.rows, kind, names), other)
                same = names_in(self.rows, other)
                with self.subTest(kind=kind, other=other):
                    self.assertEqual(told, sorted(names.values()) if kind == other else same)
                    self.assertTrue(are_rows(renamed(self.rows, kind, names)))

    def test_renamed_rows(self):
        self.assertEqual(renamed((LOOP, BLOCK), "label", {"l": "x"}), (("loop", "x", (MARK, ("again", "x"))), BLOCK))
        self.assertEqual(renamed((IF,), "mark", {"w": "x"}), (("if", "p", (("mark", "x"),), (STOP,)),))
        self.assertEqual(renamed((IF,), "stop", {"w": "x"}), (("if", "p", (MARK,), (("stop", "x"),)),))
        self.assertEqual(renamed((IF, CALL), "ask", {"p": "q"}), (("if", "q", (MARK,), (STOP,)), CALL))
        self.assertEqual(renamed((CALL,), "call", {"n": "i"}), (("call", "i"),))
        self.assertEqual(renamed((("do", "s", (("s", (CALL,)),)),), "step", {"s": "t"}), (("do", "t", (("s", (CALL,)),)),))

    def test_one_name_of_all_kinds(self):
        rows = (("do", "a", (("a", (("mark", "a"),)),)), ("if", "a", (), (("stop", "a"),)), ("call", "a"),
                ("loop", "a", (("leave", "a"), ("block", "a", (("again", "a"),)))),
                ("try", (("raise", "a"),), ((("a", "b"), ()),), ()))
        told = {
            "step": (("do", "z", rows[0][2]),) + rows[1:],
            "outcome": (("do", "a", (("z", (("mark", "a"),)),)),) + rows[1:],
            "ask": (rows[0], ("if", "z", (), (("stop", "a"),))) + rows[2:],
            "mark": (("do", "a", (("a", (("mark", "z"),)),)),) + rows[1:],
            "label": rows[:3] + (("loop", "z", (("leave", "z"), ("block", "z", (("again", "z"),)))), rows[4]),
            "error": rows[:4] + (("try", (("raise", "z"),), ((("b", "z"), ()),), ()),),
            "stop": (rows[0], ("if", "a", (), (("stop", "z"),))) + rows[2:],
            "call": rows[:2] + (("call", "z"),) + rows[3:],
        }
        for kind, turned in told.items():
            with self.subTest(kind):
                self.assertEqual(renamed(rows, kind, {"a": "z"}), turned)
                self.assertEqual(names_in(turned, kind), ["b", "z"] if kind == "error" else ["z"])

    def test_outcomes_are_put_in_order_again(self):
        self.assertEqual(renamed((DO,), "outcome", {"a": "z"}), (("do", "s", (("b", ()), ("c", (STOP, MARK)), ("z", (MARK,)))),))
        self.assertEqual(renamed((DO,), "outcome", {"a": "c", "c": "a"}),
                         (("do", "s", (("a", (STOP, MARK)), ("b", ()), ("c", (MARK,)))),))

    def test_errors_are_put_in_order_again(self):
        rows = (("try", (("raise", "e"),), ((("e", "f"), (("raise", "f"),)), (("f",), ())), (("raise", "e"),)),)
        self.assertEqual(renamed(rows, "error", {"e": "z"}),
                         (("try", (("raise", "z"),), ((("f", "z"), (("raise", "f"),)), (("f",), ())), (("raise", "z"),)),))
        self.assertEqual(renamed(rows, "error", {"e": "f", "f": "e"}),
                         (("try", (("raise", "f"),), ((("e", "f"), (("raise", "e"),)), (("e",), ())), (("raise", "f"),)),))

    def test_catches_stay_in_their_order(self):
        rows = (("try", (), ((("a",), (MARK,)), (("b",), (STOP,))), ()),)
        self.assertEqual(renamed(rows, "error", {"a": "z"}), (("try", (), ((("z",), (MARK,)), (("b",), (STOP,))), ()),))

    def test_names_are_exchanged_at_once(self):
        self.assertEqual(renamed((MARK, ("mark", "v")), "mark", {"w": "v", "v": "w"}), (("mark", "v"), MARK))
        rows = (("loop", "a", (("block", "b", (("leave", "a"), ("leave", "b"))),)),)
        self.assertEqual(renamed(rows, "label", {"a": "b", "b": "a"}),
                         (("loop", "b", (("block", "a", (("leave", "b"), ("leave", "a"))),)),))

    def test_what_is_not_there_changes_nothing(self):
        for kind in ("step", "outcome", "ask", "mark", "label", "error", "stop", "call"):
            names = {"nowhere": "b"}
            self.assertEqual(renamed(self.rows, kind, names), self.rows)
            self.assertEqual(renamed(self.rows, kind, {}), self.rows)
            self.assertEqual(renamed((), kind, names), ())
            self.assertEqual(names, {"nowhere": "b"})


if __name__ == "__main__":
    unittest.main()
