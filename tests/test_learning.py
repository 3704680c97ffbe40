"""Learning: the log books of machines, and the tables that they lead back."""

import unittest

import books
import oracle
import samples
from checks import forms, raised
from fourfaces.alike import parting
from fourfaces.errors import NoTable
from fourfaces.laying import machine_of
from fourfaces.learning import book_of, corrected, filled, is_learned, learned, table_led
from fourfaces.logbooks import LogBook
from fourfaces.machines import Machine
from fourfaces.programs import Program
from fourfaces.sheets import Sheet
from fourfaces.tables import is_table_of, machine_from, table_of
from fourfaces.ways import reached

SHEET = Sheet(["c"], [("p", ["c"])], [("s", ["c"], ["ok"])])
NO, YES = (False,), (True,)
TO_NO, TO_YES = ("s", "ok", NO), ("s", "ok", YES)
END = ("out", ("end",))
ONCE = machine_of(Program(SHEET, (("do", "s", ()),)))
TWICE = machine_of(Program(SHEET, (("do", "s", ()), ("do", "s", ()))))
EVER = machine_of(Program(SHEET, (("loop", "l", (("do", "s", ()),)),)))
HEADS = [(NO, ()), (YES, ())]


def machines(many, sizes=(1, 2, 4, 7)):
    for seed in range(many):
        luck = samples.dice(seed)
        sheet = samples.random_sheet(luck, 2, 2)
        make = samples.lively_machine if seed % 3 else samples.random_machine
        yield luck, oracle.Ground(sheet), make(luck, sheet, luck.choice(sizes))


def some_book(luck, ground, machine):
    heads = books.random_heads(luck, ground, machine, luck.choice([0, 2, 5]))
    return book_of(machine, heads, books.random_tails(luck, machine.sheet, luck.choice([0, 1, 3])))


class Books(unittest.TestCase):
    def test_the_example(self):
        book = book_of(ONCE, [(NO, []), (YES, [])], [()])
        told = [len(book.traces()), book.row((YES, [TO_NO])), book.gap()]
        self.assertEqual(forms(told), forms([6, (END,), ("open", (NO, (TO_NO,)))]))
        self.assertEqual([learned(ONCE).gap(), table_led(learned(ONCE)) == table_of(ONCE), book.agrees(ONCE)], [None, True, True])

    def test_book_of(self):
        for luck, ground, machine in machines(80):
            heads = books.random_heads(luck, ground, machine, 4)
            tails = books.random_tails(luck, machine.sheet, 3)
            shown = books.shown_of(ground, machine, heads, tails)
            book = book_of(machine, tuple((answers, list(turns)) for answers, turns in heads), tuple(tails))
            self.assertTrue(book == LogBook(machine.sheet, heads, tails, shown))
            self.assertEqual([book.heads(), book.tails()], [heads, tails])

    def test_what_is_handed_in_stays(self):
        heads, tails = [(NO, []), (YES, []), (NO, [TO_NO])], [(), (TO_NO,)]
        book_of(ONCE, heads, tails)
        self.assertEqual([heads, tails], [[(NO, []), (YES, []), (NO, [TO_NO])], [(), (TO_NO,)]])

    def test_agrees(self):
        book = book_of(ONCE, HEADS, [()])
        self.assertIs(book.agrees(TWICE), False)
        self.assertIs(book.agrees(EVER), False)
        self.assertIs(book.agrees(machine_of(Program(SHEET, (("mark", "a"), ("do", "s", ()), ("mark", "b"))))), True)
        # what a machine shows behind more turns than the book tells does not count
        book = book_of(TWICE, HEADS, [()])
        self.assertIs(book.agrees(EVER), True)
        self.assertIs(book_of(TWICE, HEADS, [(), (TO_NO,)]).agrees(EVER), False)


class Led(unittest.TestCase):
    def test_a_book_with_a_gap(self):
        for book in (book_of(ONCE, HEADS, [()]),
                     book_of(TWICE, HEADS + [(NO, (TO_NO,)), (NO, (TO_YES,)), (NO, (TO_NO, TO_NO)), (NO, (TO_NO, TO_YES))], [()])):
            kind, fields = raised(table_led, book)
            self.assertIs(kind, NoTable)
            self.assertEqual(forms(fields), forms({"lack": book.gap()}))
            self.assertIsNotNone(book.gap())

    def test_a_whole_book(self):
        book = book_of(ONCE, HEADS + [(NO, (TO_NO,)), (YES, (TO_YES,))], [()])
        table = table_led(book)
        self.assertTrue(table == table_of(ONCE))
        # it is whole, too, if it does not tell what other machines show further on
        book = book_of(TWICE, HEADS, [()])
        self.assertTrue(table_led(book) == table_of(EVER))
        self.assertFalse(table_led(book) == table_of(TWICE))

    def test_all_that_is_shown_in_the_book_is_shown_by_its_table(self):
        whole, least = 0, 0
        for luck, ground, machine in machines(250):
            book = some_book(luck, ground, machine)
            if book.gap() is None:
                table = table_led(book)
                for key in book.traces():
                    for tail, told in zip(book.tails(), book.row(key)):
                        trace = (key[0], key[1] + tail)
                        self.assertIs(table.goes_along(trace), told is not None)
                        if told is not None:
                            self.assertEqual(table.shows(trace), told)
                self.assertTrue(book.agrees(machine_from(table)))
                self.assertLessEqual(len(table), len(table_of(machine)))
                self.assertIs(len(table) == len(table_of(machine)), table == table_of(machine))
                # the table has no two states that show the same
                self.assertTrue(table_of(machine_from(table)) == table)
                whole, least = whole + 1, least + (table != table_of(machine))
        self.assertGreater(whole, 30)
        self.assertGreater(least, 3)

    def test_the_order_of_heads_and_tails_means_nothing(self):
        for luck, ground, machine in machines(40):
            book = learned(machine)
            heads, tails = book.heads()[::-1], book.tails()[::-1]
            self.assertTrue(table_led(book_of(machine, heads, tails)) == table_led(book))


class Learned(unittest.TestCase):
    def check(self, machine):
        book = learned(machine)
        self.assertIsNone(book.gap())
        self.assertIs(book.agrees(machine), True)
        self.assertTrue(table_led(book) == table_of(machine))
        self.assertIs(is_learned(machine, book), True)
        self.assertTrue(learned(machine) == book)
        return book

    def test_machines_of_one_point(self):
        for point in (END, ("round",), ("mark", "a", 0), ("ask", "p", 0, 0), ("do", "s", (("ok", 0),))):
            book = self.check(Machine(SHEET, [point]))
            self.assertEqual(len(table_led(book)), 2)
        bare = Sheet([], [], [])
        self.assertEqual(self.check(Machine(bare, [END])).heads(), [((), ())])

    def test_random_machines(self):
        for luck, ground, machine in machines(200, (1, 3, 6, 10)):
            self.check(machine)

    def test_sheets_of_full_size(self):
        cells = ["c", "d", "g"]
        steps = [(name, cells, ["a", "b", "o"]) for name in ("s", "t", "x", "y")]
        sheet = Sheet(cells, [("p", ["c"]), ("q", ["d"]), ("r", ["g"])], steps)
        points = [("do", "s", (("a", at + 1), ("b", at + 1), ("o", at + 1))) for at in range(39)] + [END]
        book = self.check(Machine(sheet, points))
        self.assertEqual(len(table_led(book)), 320)

    def test_what_is_not_learned(self):
        book = learned(TWICE)
        for machine in (ONCE, EVER):
            self.assertIs(is_learned(machine, book), False)
        self.assertIs(is_learned(TWICE, book_of(TWICE, HEADS, [()])), False)
        self.assertIs(is_learned(EVER, book_of(TWICE, HEADS, [()])), True)
        self.assertIs(is_learned(ONCE, book_of(ONCE, HEADS, [()])), False)
        for thing in samples.ODDITIES + [ONCE, table_of(ONCE), SHEET]:
            self.assertIs(is_learned(ONCE, thing), False)

    def test_another_sheet(self):
        # the same steps and asks, but another cell
        other = Sheet(["c", "d"], [("p", ["c"])], [("s", ["c"], ["ok"])])
        machine = Machine(other, ONCE.points())
        self.assertIs(is_learned(ONCE, learned(machine)), False)
        self.assertIs(is_learned(machine, learned(machine)), True)

    def test_other_whole_books_are_learned_too(self):
        for luck, ground, machine in machines(60):
            heads = books.random_heads(luck, ground, machine, 5)
            for book in (filled(machine, book_of(machine, heads, [()])), some_book(luck, ground, machine)):
                right = book.gap() is None and table_led(book) == table_of(machine)
                self.assertIs(is_learned(machine, book), right)


class Filled(unittest.TestCase):
    def check(self, machine, book, told):
        self.assertIsNone(told.gap())
        self.assertIs(told.agrees(machine), True)
        self.assertLessEqual(set(book.heads()), set(told.heads()))
        self.assertLessEqual(set(book.tails()), set(told.tails()))
        self.assertTrue(told.sheet == machine.sheet)
        # what it tells of the traces of the book is what the book does
        for key in book.traces():
            for tail, one in zip(book.tails(), book.row(key)):
                self.assertEqual(told.row(key)[told.tails().index(tail)], one)

    def test_filled(self):
        for luck, ground, machine in machines(120):
            book = some_book(luck, ground, machine)
            told = filled(machine, book)
            self.check(machine, book, told)
            self.assertTrue(filled(machine, book) == told)
            # a book that is whole stays so
            self.check(machine, told, filled(machine, told))

    def test_corrected(self):
        parted = 0
        for luck, ground, machine in machines(120):
            book = some_book(luck, ground, machine)
            traces = oracle.traces(ground, machine, 3)
            answers, turns = luck.choice(traces)[0]
            for trace in ((answers, turns), (answers, tuple(turns))):
                told = corrected(machine, book, trace)
                self.check(machine, book, told)
                for many in range(len(turns) + 1):
                    self.assertIn((answers, tuple(turns[:many])), told.heads())
            if book.gap() is None:
                parted += self.check_parted(machine, book)
        self.assertGreater(parted, 1)

    def check_parted(self, machine, book):
        """A trace that parts the machine from the one that is led back makes more states."""
        trace = parting(machine, machine_from(table_led(book)))
        if trace is None:
            return False
        told = corrected(machine, book, trace)
        self.check(machine, book, told)
        self.assertGreater(len(table_led(told)), len(table_led(book)))
        return True

    def test_steps_that_are_counted(self):
        for many in range(2, 9):
            machine = machine_of(Program(SHEET, (("do", "s", ()),) * many))
            for heads in (HEADS, HEADS + [(NO, (TO_NO,))]):
                book = book_of(machine, heads, [()])
                if book.gap() is None:
                    self.assertTrue(self.check_parted(machine, book))
                    self.assertTrue(table_led(book) == table_of(EVER))

    def test_learning_by_what_parts(self):
        for luck, ground, machine in machines(60):
            book = filled(machine, book_of(machine, [(answers, ()) for answers in ground.can], [()]))
            for _ in range(len(reached(machine)) + 1):
                led = machine_from(table_led(book))
                trace = parting(machine, led)
                if trace is None:
                    break
                book = corrected(machine, book, trace)
            self.assertTrue(is_table_of(machine, table_led(book)))

    def test_a_long_trace(self):
        points = [("do", "s", (("ok", (at + 1) % 40),)) for at in range(39)] + [("ask", "p", 0, 40), END]
        machine = Machine(SHEET, points)
        trace = (YES, [TO_YES] * 300)
        book = book_of(machine, HEADS, [()])
        told = corrected(machine, book, trace)
        self.check(machine, book, told)
        self.assertIn((YES, (TO_YES,) * 300), told.heads())
        self.assertEqual(trace, (YES, [TO_YES] * 300))

    def test_a_trace_without_turns(self):
        book = book_of(ONCE, HEADS, [()])
        self.check(ONCE, book, corrected(ONCE, book, (NO, [])))


if __name__ == "__main__":
    unittest.main()
