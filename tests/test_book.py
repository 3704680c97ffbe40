"""Book: deeds that are done, undone and done again, the frame that is carried along, trials."""

import unittest

import samples
from checks import forms, is_just, raised
from fourfaces.alike import show_same
from fourfaces.book import Book
from fourfaces.errors import BadDeed, FaceError, NoEntry, Nothing, Over, Refused, Wrong
from fourfaces.frames import Frame, carried
from fourfaces.laying import machine_of
from fourfaces.notation import show_program
from fourfaces.programs import Program
from fourfaces.sheets import Sheet
from fourfaces.versions import version_behind
from fourfaces.worlds import World

SHEET = Sheet(["c"], [("p", ["c"])], [("s", ["c"], ["bad", "ok"])])
STEP = ("do", "s", (("bad", (("mark", "u"),)),))
PROGRAM = Program(SHEET, (STEP, ("mark", "v"), ("do", "s", ())))
WORLD = World(SHEET, [((False,), {"s": ("bad", 1)}), ((True,), {"s": ("ok", 0)})])
FACT = ("fact", ("after", "s", "bad", "p", True))
PUT, OUT, AGAIN = ("put", ("", (1,)), ("mark", "x")), ("out", ("", (0,))), ("out", ("", (1,)))


def stands(book):
    """All that a book tells."""
    frame = book.frame()
    told = None if frame is None else [frame.points(), frame.state(), frame.machine().points()]
    return [show_program(book.program()), book.machine().points(), book.log(), len(book), told]


def whole(book):
    """All that a book tells, with what was undone, which is looked at in a copy."""
    copy, undone = book.copied(), []
    while raised(copy.redo)[0] == "returned":
        undone.append(stands(copy))
    return [stands(book), undone]


class Deeds(unittest.TestCase):
    def test_a_new_book(self):
        book = Book(PROGRAM)
        self.assertTrue(book.program() == PROGRAM and book.machine() == machine_of(PROGRAM))
        self.assertEqual(forms([book.log(), len(book), book.frame(), book.shown_alike()]), forms([[], 0, None, [0]]))
        self.assertTrue(book.past(0) == PROGRAM)
        for act in (book.undo, book.redo):
            self.assertEqual(raised(act), (Nothing, {}))
        self.assertEqual(raised(book.go, 3), (Over, {}))

    def test_wrong_programs(self):
        for thing in samples.ODDITIES + [SHEET, machine_of(PROGRAM), Book(PROGRAM)]:
            self.assertEqual(raised(Book, thing), (Wrong, {"place": 0}))

    def test_do_undo_redo(self):
        book = Book(PROGRAM)
        self.assertIsNone(book.do(PUT))
        self.assertIsNone(book.do(OUT))
        middle, last = version_behind(PROGRAM, PUT), version_behind(version_behind(PROGRAM, PUT), OUT)
        self.assertTrue(book.program() == last and book.machine() == machine_of(last))
        self.assertEqual([book.log(), len(book)], [[PUT, OUT], 2])
        self.assertEqual(raised(book.redo), (Nothing, {}))
        self.assertEqual(book.undo(), OUT)
        self.assertTrue(book.program() == middle)
        self.assertEqual(book.undo(), PUT)
        self.assertTrue(book.program() == PROGRAM)
        self.assertEqual(raised(book.undo), (Nothing, {}))
        self.assertEqual([book.redo(), book.redo()], [PUT, OUT])
        self.assertTrue(book.program() == last)
        self.assertEqual([raised(book.redo), book.log()], [(Nothing, {}), [PUT, OUT]])

    def test_a_deed_lets_go_what_was_undone(self):
        book = Book(PROGRAM)
        book.do(PUT)
        book.do(OUT)
        book.undo()
        book.do(PUT)
        self.assertEqual([book.log(), raised(book.redo)], [[PUT, PUT], (Nothing, {})])

    def test_a_deed_that_is_refused_does_not(self):
        book = Book(PROGRAM)
        book.start(WORLD, 0)
        book.go(1)
        book.do(PUT)
        book.do(OUT)
        book.undo()
        told = whole(book)
        wrong = ("out", ("", (9,)))
        kind, fields = raised(book.do, wrong)
        self.assertIs(kind, Refused)
        self.assertIs(fields["deed"], wrong)
        for thing in samples.ODDITIES:
            self.assertEqual(raised(book.do, thing), (BadDeed, {}))
        self.assertEqual(whole(book), told)
        self.assertEqual(book.redo(), OUT)

    def test_the_past(self):
        book = Book(PROGRAM)
        book.do(PUT)
        book.do(OUT)
        programs = [PROGRAM, version_behind(PROGRAM, PUT), book.program()]
        for many in range(3):
            self.assertTrue(book.past(many) == programs[many])
        for thing in [3, -1, True, False, "0", None, 10 ** 59, (0,)] + [thing for thing in samples.ODDITIES if forms(thing) not in (forms(0), forms(1))]:
            kind, fields = raised(book.past, thing)
            self.assertIs(kind, NoEntry, thing)
            self.assertIs(fields["many"], thing)
        book.undo()
        self.assertEqual(raised(book.past, 2), (NoEntry, {"many": 2}))
        self.assertTrue(book.past(1) == book.program())

    def test_shown_alike(self):
        book = Book(PROGRAM)
        for deed in (PUT, OUT, ("text", show_program(PROGRAM)), FACT, ("tree",), ("forget", FACT[1]), ("renamed", "mark", "v", "z")):
            book.do(deed)
        self.assertEqual(forms(book.shown_alike()), forms([0, 1, 3, 6, 7]))
        book.undo()
        book.undo()
        self.assertEqual(book.shown_alike(), [4, 5])
        book.shown_alike().clear()
        self.assertEqual(book.shown_alike(), [4, 5])

    def test_what_is_told_is_new(self):
        book = Book(PROGRAM)
        book.do(PUT)
        book.log().clear()
        book.machine().points().clear()
        self.assertEqual([book.log(), len(book)], [[PUT], 1])

    def test_equal_books(self):
        one, other = Book(PROGRAM), Book(Program(SHEET, PROGRAM.rows()))
        self.assertIs(one == other, True)
        one.do(PUT)
        self.assertIs(one == other, False)
        other.do(PUT)
        other.do(OUT)
        self.assertIs(one == other, False)
        other.undo()
        other.start(WORLD, 1)
        self.assertIs(one == other, True)
        second = Book(version_behind(PROGRAM, PUT))
        self.assertTrue(second.program() == one.program())
        self.assertIs(second == one, False)
        self.assertIs(second == Book(PROGRAM), False)
        self.assertIs(one != other, False)
        for thing in samples.ODDITIES + [PROGRAM]:
            self.assertIs(one == thing, False)

    def test_copies(self):
        book = Book(PROGRAM)
        book.start(WORLD, 0)
        book.do(PUT)
        book.go(2)
        book.do(OUT)
        book.undo()
        copy = book.copied()
        self.assertTrue(is_just(copy, Book) and copy == book)
        self.assertEqual(whole(copy), whole(book))
        told = whole(book)
        copy.go(1)
        copy.redo()
        copy.do(("tree",))
        self.assertEqual([whole(book), book.log()], [told, [PUT]])
        book.do(("tree",))
        self.assertEqual(copy.log(), [PUT, OUT, ("tree",)])


class Frames(unittest.TestCase):
    def test_going_on(self):
        book = Book(PROGRAM)
        self.assertIsNone(book.start(WORLD, 0))
        frame = book.frame()
        self.assertTrue(is_just(frame, Frame) and frame.machine() == book.machine() and frame.world() == WORLD)
        self.assertEqual([frame.points(), frame.state()], [[0], 0])
        self.assertEqual(forms([book.go(2), book.frame().points(), book.go(0), book.go(99), book.go(1)]), forms([2, [0, 1, 2], 0, 2, 0]))
        self.assertEqual(book.frame().points(), [0, 1, 2, 3, 4])
        book.start(WORLD, 1)
        self.assertEqual([book.frame().points(), book.frame().state()], [[0], 1])

    def test_a_frame_that_is_told_is_a_copy(self):
        book = Book(PROGRAM)
        book.start(WORLD, 0)
        frame = book.frame()
        frame.go(2)
        self.assertEqual(book.frame().points(), [0])
        book.go(1)
        self.assertEqual([frame.points(), book.frame().points()], [[0, 1, 2], [0, 1]])

    def test_it_is_carried_to_the_first_point_that_shows_the_same(self):
        book = Book(PROGRAM)
        book.start(WORLD, 0)
        book.go(2)
        before = book.frame()
        book.do(("put", ("", (0,)), ("mark", "x")))
        wanted = carried(before, book.machine())
        self.assertEqual([one.point() for one in wanted], [2, 3, 4])
        frame = book.frame()
        self.assertEqual([frame.points(), frame.state()], [[2], 1])
        self.assertEqual(raised(frame.back), (Over, {}))

    def test_it_goes_where_it_can_not_be_carried(self):
        book = Book(PROGRAM)
        book.start(WORLD, 0)
        book.do(("rows", "", ()))
        self.assertIsNone(book.frame())
        self.assertEqual(raised(book.go, 1), (Over, {}))
        book.undo()
        self.assertEqual(book.frame().points(), [0])
        book.redo()
        self.assertIsNone(book.frame())

    def test_another_sheet(self):
        book = Book(PROGRAM)
        book.start(WORLD, 0)
        book.do(FACT)
        self.assertIsNone(book.frame())
        book.undo()
        book.do(("renamed", "ask", "p", "q"))
        self.assertIsNone(book.frame())
        book.undo()
        # a name that the sheet has not leaves it as it is, and so does a fact that is there
        book.do(("renamed", "mark", "u", "w"))
        self.assertEqual(book.frame().points(), [0])

    def test_a_fact_that_is_there_already(self):
        sheet = SHEET.with_fact(FACT[1])
        book = Book(Program(sheet, PROGRAM.rows()))
        book.start(World(sheet, [((False,), {"s": ("bad", 1)}), ((True,), {"s": ("ok", 0)})]), 0)
        book.do(FACT)
        self.assertEqual(book.frame().points(), [0])

    def test_undo_and_redo_bring_back_the_frame(self):
        book = Book(PROGRAM)
        book.start(WORLD, 0)
        book.go(1)
        book.do(PUT)
        behind = [book.frame().points(), book.frame().state()]
        book.go(2)
        book.undo()
        self.assertEqual([book.frame().points(), book.frame().state()], [[0, 1], 1])
        book.go(1)
        book.redo()
        self.assertEqual([book.frame().points(), book.frame().state()], behind)
        book.undo()
        self.assertEqual(book.frame().points(), [0, 1])
        book.frame().go(5)
        book.redo()
        self.assertEqual(book.frame().points(), behind[0])

    def test_a_frame_that_began_behind_a_deed(self):
        book = Book(PROGRAM)
        book.do(PUT)
        book.start(WORLD, 1)
        book.go(1)
        book.do(OUT)
        book.undo()
        self.assertEqual([book.frame().points(), book.frame().state()], [[0, 2], 0])
        book.undo()
        self.assertIsNone(book.frame())
        book.redo()
        self.assertIsNone(book.frame())
        book.redo()
        self.assertIsNotNone(book.frame())
        self.assertTrue(book.frame().machine() == book.machine())


class Trials(unittest.TestCase):
    def make(self):
        book = Book(PROGRAM)
        book.start(WORLD, 0)
        book.do(PUT)
        book.do(AGAIN)
        book.go(1)
        book.undo()
        book.go(1)
        return book

    def test_what_act_does_is_left_behind(self):
        book = self.make()
        told, seen = whole(book), []

        def act(same):
            seen.append(same)
            same.go(3)
            same.do(("tree",))
            same.do(("rows", "z", ()))
            same.undo()
            same.start(WORLD, 1)
            return ["what", len(same)]

        self.assertEqual(book.trial(act), ["what", 2])
        self.assertIs(seen[0], book)
        self.assertEqual(whole(book), told)
        self.assertEqual(book.redo(), AGAIN)

    def test_act_raises(self):
        for error in (Nothing(), KeyError("k"), ValueError("v"), Over()):
            book = self.make()
            told = whole(book)

            def act(same):
                same.redo()
                same.go(1)
                raise error

            with self.assertRaises(type(error)) as caught:
                book.trial(act)
            self.assertIs(caught.exception, error)
            self.assertEqual(whole(book), told)

    def test_act_that_only_goes_on(self):
        book = self.make()
        told = whole(book)
        self.assertEqual(book.trial(lambda same: same.go(2)), 2)
        self.assertIsNone(book.trial(lambda same: None))
        self.assertIs(book.trial(lambda same: same), book)
        self.assertEqual(whole(book), told)

    def test_trials_within_one_another(self):
        book = self.make()
        told, inner = whole(book), []

        def act(same):
            same.do(("tree",))
            ahead = whole(same)
            same.trial(lambda again: again.undo())
            inner.append(whole(same) == ahead)
            return len(same)

        self.assertEqual(book.trial(act), 2)
        self.assertEqual([inner, whole(book)], [[True], told])

    def test_without_a_frame(self):
        book = Book(PROGRAM)
        book.trial(lambda same: same.start(WORLD, 0))
        self.assertIsNone(book.frame())


class Plain:
    """A book as the document tells it: all that was so is kept as copies."""

    def __init__(self, program):
        self.program, self.frame, self.done, self.undone = program, None, [], []

    def do(self, deed):
        later = version_behind(self.program, deed)
        ahead = (self.program, self.frame and self.frame.copied())
        frame = None
        if self.frame and self.frame.machine().sheet == later.sheet:
            frame = (carried(self.frame, machine_of(later)) + [None])[0]
        self.done.append((deed, ahead, (later, frame)))
        self.undone = []
        self.stand(later, frame)

    def stand(self, program, frame):
        self.program, self.frame = program, frame and frame.copied()

    def undo(self):
        self.undone.append(self.done.pop())
        self.stand(*self.undone[-1][1])

    def redo(self):
        self.done.append(self.undone.pop())
        self.stand(*self.done[-1][2])


class RandomBooks(unittest.TestCase):
    def deed(self, luck, program):
        if luck.random() < 0.3 and len(program):
            return ("out", luck.choice(program.addresses()))
        row = samples.Grower(luck, program.sheet, 3).row([], [], 2)
        kind = luck.choice(["put", "tree", "rows", "text", "renamed"])
        if kind == "put":
            return ("put", ("", (luck.randrange(3),)), row)
        if kind == "rows":
            return ("rows", "m", (row,))
        if kind == "text":
            return ("text", show_program(program) if luck.random() < 0.8 else "program\n")
        return ("renamed", "mark", "u", luck.choice(["x", "v"])) if kind == "renamed" else ("tree",)

    def test_against_a_plain_one(self):
        frames, undone = 0, 0
        for seed in range(80):
            luck = samples.dice(seed)
            program = samples.small_program(luck, samples.random_sheet(luck, 2, 2), 12)
            world = samples.keeping_world(luck, program.sheet)
            book, plain = Book(program), Plain(program)
            for _ in range(14):
                act = luck.choice(["do", "do", "do", "undo", "undo", "redo", "redo", "go", "start", "trial"])
                if act == "do":
                    deed = self.deed(luck, plain.program)
                    self.assertEqual(raised(book.do, deed), raised(plain.do, deed))
                elif act == "undo" and plain.done:
                    plain.undo()
                    self.assertEqual(book.undo(), plain.undone[-1][0])
                elif act == "redo" and plain.undone:
                    plain.redo()
                    self.assertEqual(book.redo(), plain.done[-1][0])
                    undone += 1
                elif act == "go" and plain.frame:
                    self.assertEqual(book.go(2), plain.frame.go(2))
                elif act == "start":
                    book.start(world, 0)
                    plain.frame = Frame(machine_of(plain.program), world, 0)
                elif act == "trial":
                    deed = self.deed(luck, plain.program)
                    raised(book.trial, lambda same: [same.do(deed), same.go(1)])
                self.check(book, plain)
                frames += plain.frame is not None
        self.assertTrue(frames > 100 and undone > 20, (frames, undone))

    def check(self, book, plain):
        self.assertTrue(book.program() == plain.program)
        self.assertEqual(book.log(), [deed for deed, ahead, behind in plain.done])
        frame = book.frame()
        self.assertEqual(frame is None, plain.frame is None)
        if frame is not None:
            self.assertEqual([frame.points(), frame.state()], [plain.frame.points(), plain.frame.state()])
        programs = [ahead[0] for deed, ahead, behind in plain.done] + [plain.program]
        alike = [many for many, other in enumerate(programs)
                 if other.sheet == plain.program.sheet and show_same(machine_of(other), machine_of(plain.program))]
        self.assertEqual(book.shown_alike(), alike)
        for many, other in enumerate(programs):
            self.assertTrue(book.past(many) == other)

    def test_errors_are_those_of_deeds(self):
        with self.assertRaises(FaceError):
            Book(PROGRAM).do(("without", "n"))


if __name__ == "__main__":
    unittest.main()
