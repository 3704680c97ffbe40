"""Log books: their form, what they tell, and where they have gaps."""

import unittest

import books
import oracle
import samples
from checks import forms, raised
from fourfaces.errors import NoTrace, Wrong
from fourfaces.laying import machine_of
from fourfaces.learning import book_of, learned
from fourfaces.logbooks import LogBook
from fourfaces.machines import Machine
from fourfaces.programs import Program
from fourfaces.sheets import Sheet

SHEET = Sheet(["c"], [("p", ["c"])], [("s", ["c"], ["ok"])])
NO, YES = (False,), (True,)
TO_NO, TO_YES = ("s", "ok", NO), ("s", "ok", YES)
END, DO, NEVER = ("out", ("end",)), ("do", "s"), ("never",)
ONCE = machine_of(Program(SHEET, (("do", "s", ()),)))
HEADS = [(NO, ()), (YES, ())]
# the log book of one step, with the two begins as heads
SHOWN = {(NO, ()): (DO,), (YES, ()): (DO,), (NO, (TO_NO,)): (END,), (NO, (TO_YES,)): (END,), (YES, (TO_NO,)): (END,),
         (YES, (TO_YES,)): (END,)}


def place_of(*given):
    """The place of the Wrong that a log book raises, None if it raises none."""
    kind, fields = raised(LogBook, *given)
    return None if kind == "returned" else (fields["place"] if kind is Wrong else kind)


class Made(unittest.TestCase):
    def test_what_it_tells(self):
        book = LogBook(SHEET, [(NO, []), (YES, ())], [()], SHOWN)
        self.assertIs(book.sheet == SHEET, True)
        self.assertEqual(forms(book.heads()), forms(HEADS))
        self.assertEqual(forms(book.tails()), forms([()]))
        self.assertEqual(forms(book.traces()), forms(sorted(SHOWN)))
        for key, row in SHOWN.items():
            self.assertEqual(forms(book.row(key)), forms(row))
            self.assertEqual(forms(book.row((key[0], list(key[1])))), forms(row))

    def test_the_example(self):
        book = book_of(ONCE, [(NO, []), (YES, [])], [()])
        told = [len(book.traces()), book.row((YES, [TO_NO])), book.gap()]
        self.assertEqual(forms(told), forms([6, (END,), ("open", (NO, (TO_NO,)))]))
        self.assertIs(book.agrees(ONCE), True)
        self.assertIs(book == LogBook(SHEET, HEADS, [()], SHOWN), True)

    def test_heads_in_any_order(self):
        one = LogBook(SHEET, HEADS, [()], SHOWN)
        other = LogBook(SHEET, tuple(HEADS[::-1]), ((),), {key: SHOWN[key] for key in sorted(SHOWN, reverse=True)})
        self.assertIs(one == other, True)
        self.assertEqual(other.traces(), one.traces())

    def test_tails_in_any_order(self):
        rows = {key: row + ((END,) if len(key[1]) == 0 else (None,)) for key, row in SHOWN.items()}
        turned = {key: row[::-1] for key, row in rows.items()}
        one = LogBook(SHEET, HEADS, [(), (TO_NO,)], rows)
        other = LogBook(SHEET, HEADS, [(TO_NO,), ()], turned)
        self.assertIs(one == other, True)
        self.assertEqual([one.row((NO, ())), other.row((NO, ()))], [(DO, END), (END, DO)])
        self.assertEqual([one.gap(), other.gap()], [("open", (NO, (TO_NO,)))] * 2)
        self.assertEqual(place_of(SHEET, HEADS, [(TO_NO,), ()], rows), 3)

    def test_equal_to_nothing_else(self):
        book = LogBook(SHEET, HEADS, [()], SHOWN)
        more = book_of(ONCE, HEADS + [(NO, (TO_NO,))], [()])
        tails = book_of(ONCE, HEADS, [(), (TO_NO,)])
        twice = machine_of(Program(SHEET, (("do", "s", ()), ("do", "s", ()))))
        shown = book_of(twice, HEADS, [()])
        fact = SHEET.with_fact(("never", (("p", True), )))
        sheet = book_of(Machine(fact, ONCE.points()), [(NO, ())], [()])
        for other in [more, tails, shown, sheet, SHEET, ONCE, SHOWN, HEADS] + samples.ODDITIES:
            self.assertIs(book == other, False)
            self.assertIs(book != other, True)

    def test_other_sheets_and_tails_with_the_same_rows(self):
        book = LogBook(SHEET, HEADS, [()], SHOWN)
        wider = Sheet(["c", "d"], [("p", ["c"])], [("s", ["c"], ["ok"])])
        self.assertIs(book == LogBook(wider, HEADS, [()], SHOWN), False)
        one, other = book_of(ONCE, HEADS, [(), (TO_NO,)]), book_of(ONCE, HEADS, [(), (TO_YES,)])
        self.assertEqual([one.row(key) for key in one.traces()], [other.row(key) for key in other.traces()])
        self.assertIs(one == other, False)

    def test_agrees_with_no_machine_of_another_sheet(self):
        book = LogBook(SHEET, HEADS, [()], SHOWN)
        never = SHEET.with_fact(("never", (("p", True),)))
        self.assertIs(book.agrees(Machine(never, ONCE.points())), False)

    def test_what_is_handed_in_is_copied(self):
        turns = [TO_NO]
        more = book_of(ONCE, HEADS + [(NO, (TO_NO,))], [()])
        heads, tails, shown = [(NO, []), (YES, []), (NO, turns)], [()], {key: more.row(key) for key in more.traces()}
        book = LogBook(SHEET, heads, tails, shown)
        heads[0][1].append(TO_NO)
        for part in (turns, heads, tails, shown):
            part.clear()
        book.heads().clear()
        book.tails().clear()
        book.traces().clear()
        self.assertEqual([book.heads(), book.tails(), len(book.traces())], [HEADS + [(NO, (TO_NO,))], [()], 6])
        self.assertEqual(book.row((NO, (TO_NO,))), (END,))

    def test_no_such_trace(self):
        book = LogBook(SHEET, HEADS, [()], SHOWN)
        wrong = [(NO, (TO_NO, TO_NO)), ((0,), ()), ((False,), (("s", "ok", (0,)),)), [NO, ()], (NO,), (NO, None), (NO, (), ()),
                 ((False, False), ()), ((), ()), (NO, (("s", "no", NO),)), (NO, (["s", "ok", NO],)), (NO, {}), NO, (NO, "")]
        for thing in wrong + [thing for thing in samples.ODDITIES if thing != ((False,), [])]:
            self.assertEqual(raised(book.row, thing), (NoTrace, {"at": 0}))
        self.assertEqual(book.row((NO, [])), (DO,))


class WrongThings(unittest.TestCase):
    def test_no_sheet(self):
        for thing in samples.ODDITIES + [ONCE]:
            self.assertEqual(place_of(thing, None, None, None), 0)
            self.assertEqual(place_of(thing, HEADS, [()], SHOWN), 0)

    def test_heads(self):
        more = book_of(ONCE, HEADS + [(NO, (TO_NO,))], [()])
        shown = {key: more.row(key) for key in more.traces()}
        self.assertIsNone(place_of(SHEET, HEADS + [(NO, [TO_NO])], [()], shown))
        wrong = [[], HEADS[:1], HEADS[1:], HEADS + HEADS[:1], HEADS + [(NO, [])], [(0,), ()], {(NO, ()): 0, (YES, ()): 1},
                 HEADS + [(NO, (TO_NO, TO_NO))], HEADS + [(NO, (TO_NO,)), (NO, [TO_NO])], HEADS + [(NO, (("s", "no", NO),))],
                 [((0,), ()), (YES, ())], [(NO, ()), ((1,), ())], HEADS + [None], [(NO, None), (YES, ())], [[NO, ()], (YES, ())],
                 HEADS + [(NO, (("s", "ok", (0,)),))], HEADS + [(NO, (["s", "ok", NO],))], [(NO, (), ()), (YES, ())]]
        for thing in wrong + samples.ODDITIES:
            for rest in (([()], shown), (None, None), ([()], SHOWN)):
                self.assertEqual(place_of(SHEET, thing, *rest), 1)

    def test_tails(self):
        wrong = [[], [(TO_NO,)], [(), ()], [(), (TO_NO, TO_YES)], [(), [TO_NO]], [()] + [(TO_NO,)] * 2, [(), TO_NO], (),
                 [(), (("s", "no", NO),)], [(), (("x", "ok", NO),)], [(), (("s", "ok", (0,)),)], [(), (("s", "ok", ()),)],
                 [(), (("s", "ok"),)], [(), None], {(): True}, [(), (["s", "ok", NO],)], [(), (("s", "ok", [False]),)]]
        for thing in wrong + [thing for thing in samples.ODDITIES if thing != ((),)]:
            for shown in (SHOWN, None):
                self.assertEqual(place_of(SHEET, HEADS, thing, shown), 2)

    def test_answers_of_a_tail_need_not_be_able_to_be(self):
        sheet = Sheet(["c"], [("p", ["c"])], [("s", ["c"], ["ok"])], [("never", (("p", True),))])
        machine = Machine(sheet, ONCE.points())
        book = book_of(machine, [(NO, ())], [(), (TO_YES,), (TO_NO,), (TO_NO, TO_YES)])
        self.assertEqual(book.row((NO, ())), (DO, None, END, None))
        self.assertEqual(place_of(sheet, [(NO, ()), (YES, ())], [()], {}), 1)

    def test_shown(self):
        wrong = [{}, {key: SHOWN[key] for key in list(SHOWN)[1:]}, {key: SHOWN[key] for key in list(SHOWN)[:-1]},
                 {**SHOWN, (NO, (TO_NO, TO_NO)): (None,)}, {**SHOWN, (NO, (TO_NO,)): (None,)}, {**SHOWN, (NO, ()): (None,)},
                 {**SHOWN, (NO, ()): (END,)}, {**SHOWN, (NO, ()): ()}, {**SHOWN, (NO, ()): (DO, DO)}, {**SHOWN, (NO, ()): [DO]},
                 {**SHOWN, (NO, ()): DO}, {**SHOWN, (NO, ()): (["do", "s"],)}, {**SHOWN, (NO, ()): (("do", "x"),)},
                 {**SHOWN, (NO, (TO_NO,)): (("out", ("on",)),)}, {**SHOWN, (NO, (TO_NO,)): (("round",),)},
                 {**SHOWN, (NO, (TO_NO,)): (("never", 0),)}, {**SHOWN, None: (END,)}, {**SHOWN, 0: (END,)}, list(SHOWN.items())]
        for at, key in enumerate(SHOWN):
            rest = {other: SHOWN[other] for other in SHOWN if other != key}
            ones = (tuple(int(truth) for truth in key[0]), key[1])
            wrong.append({**rest, ones: SHOWN[key]})
            if key[1]:
                wrong.append({**rest, (key[0], (key[1][0][:2] + (tuple(int(truth) for truth in key[1][0][2]),),)): SHOWN[key]})
        for thing in wrong + samples.ODDITIES:
            with self.subTest(thing=repr(thing)):
                self.assertEqual(place_of(SHEET, HEADS, [()], thing), 3)

    def test_the_last_traces_may_show_anything(self):
        for told in (END, DO, NEVER, ("out", ("raise", "e")), ("out", ("stop", "x"))):
            self.assertIsNone(place_of(SHEET, HEADS, [()], {**SHOWN, (YES, (TO_NO,)): (told,)}))

    def test_a_head_that_is_no_next_trace(self):
        shown = {(NO, ()): (DO,), (YES, ()): (END,), (NO, (TO_NO,)): (END,), (NO, (TO_YES,)): (END,), (YES, (TO_NO,)): (END,)}
        self.assertEqual(place_of(SHEET, HEADS + [(YES, (TO_NO,))], [()], shown), 3)
        self.assertEqual(place_of(SHEET, HEADS, [()], shown), 3)
        del shown[(YES, (TO_NO,))]
        self.assertIsNone(place_of(SHEET, HEADS, [()], shown))
        two = Sheet(["c"], [("p", ["c"])], [("s", ["c"], ["ok"]), ("t", ["c"], ["ok"])])
        self.assertEqual(place_of(two, HEADS + [(YES, (("t", "ok", NO),))], [()], SHOWN), 3)

    def test_tails_that_do_not_fit(self):
        rows = {key: row + ((END,) if len(key[1]) == 0 else (None,)) for key, row in SHOWN.items()}
        tails = [(), (TO_NO,)]
        self.assertIsNone(place_of(SHEET, HEADS, tails, rows))
        # told otherwise than by the next trace
        for told in (None, DO, NEVER):
            self.assertEqual(place_of(SHEET, HEADS, tails, {**rows, (NO, ()): (DO, told)}), 3)
        # something is told behind an exit
        self.assertEqual(place_of(SHEET, HEADS, tails, {**rows, (NO, (TO_NO,)): (END, END)}), 3)
        self.assertEqual(place_of(SHEET, HEADS, tails, {**rows, (NO, (TO_NO,)): (NEVER, DO)}), 3)
        # nothing is told behind a step
        self.assertEqual(place_of(SHEET, HEADS, tails, {**rows, (NO, (TO_YES,)): (DO, None)}), 3)
        self.assertIsNone(place_of(SHEET, HEADS, tails, {**rows, (NO, (TO_YES,)): (DO, DO)}))

    def test_longer_tails(self):
        tails = [(), (TO_NO,), (TO_YES, TO_NO), (TO_NO, TO_YES, TO_NO)]
        machine = machine_of(Program(SHEET, (("loop", "l", (("do", "s", ()),)),)))
        book = book_of(machine, HEADS, tails)
        shown = {key: book.row(key) for key in book.traces()}
        key = (NO, (TO_NO,))
        self.assertEqual(shown[key], (DO, DO, DO, DO))
        for row, place in [((DO, DO, None, DO), None), ((DO, DO, None, None), None), ((DO, END, DO, None), None),
                           ((DO, END, DO, DO), 3), ((DO, None, DO, DO), 3), ((NEVER, None, None, None), 3),
                           ((DO, NEVER, NEVER, None), None), ((DO, DO, DO, None), None)]:
            # what is told of the head with one turn more must be equal
            told = {**shown, key: row}
            whole = books.Plain(SHEET, HEADS, tails, told).place()
            self.assertEqual(place_of(SHEET, HEADS, tails, told), whole)
        self.assertEqual(books.Plain(SHEET, HEADS, tails, {**shown, key: (DO, END, DO, DO)}).place(), 3)
        two = {**shown, key: (DO, END, DO, None), (NO, ()): (DO, DO, DO, DO)}
        self.assertEqual(place_of(SHEET, HEADS, tails, two), books.Plain(SHEET, HEADS, tails, two).place())

    def test_the_first_error(self):
        self.assertEqual([place_of(None, None, None, None), place_of(SHEET, None, None, None), place_of(SHEET, HEADS, 0, 0),
                          place_of(SHEET, HEADS, [()], 0)], [0, 1, 2, 3])


class Compared(unittest.TestCase):
    def draw(self, seed):
        luck = samples.dice(seed)
        sheet = samples.random_sheet(luck, 2, 2)
        ground = oracle.Ground(sheet)
        make = samples.lively_machine if seed % 2 else samples.random_machine
        machine = make(luck, sheet, luck.choice([2, 4, 6]))
        heads = books.random_heads(luck, ground, machine, luck.choice([0, 2, 6]))
        tails = books.random_tails(luck, sheet, luck.choice([0, 1, 3, 5]))
        return luck, ground, machine, heads, tails

    def test_books_of_machines(self):
        gaps = set()
        for seed in range(150):
            luck, ground, machine, heads, tails = self.draw(seed)
            shown = books.shown_of(ground, machine, heads, tails)
            book = LogBook(machine.sheet, heads, tails, shown)
            self.assertEqual([book.heads(), book.tails(), book.traces()], [heads, tails, sorted(shown)])
            self.assertEqual({key: book.row(key) for key in shown}, shown)
            self.assertTrue(book == book_of(machine, [(answers, list(turns)) for answers, turns in heads], tails))
            self.assertIs(book.agrees(machine), True)
            told = book.gap()
            self.assertEqual(forms(told), forms(books.gap(book)))
            gaps.add(told[0] if told else None)
            other = samples.lively_machine(luck, machine.sheet, 4)
            keys = [key for key in shown if other.goes_along(key)]
            agrees = len(keys) == len(shown) and books.shown_of(ground, other, heads, tails) == shown
            self.assertIs(book.agrees(other), agrees)
        self.assertEqual(gaps, {"open", "split", None})

    def test_exchanged_parts(self):
        """Log books with something else told, or with other tails, are right just where the document says so."""
        seen = {None: 0, 1: 0, 2: 0, 3: 0}
        for seed in range(120):
            luck, ground, machine, heads, tails = self.draw(seed)
            sheet = machine.sheet
            shown = books.shown_of(ground, machine, heads, tails)
            things = [None, END, NEVER] + [("do", row[0]) for row in sheet.steps()]
            for _ in range(40):
                told = dict(shown)
                for _ in range(luck.choice([1, 1, 2, 4])):
                    key = luck.choice(sorted(told))
                    row = list(told[key])
                    row[luck.randrange(len(row))] = luck.choice(things)
                    told[key] = tuple(row)
                place = books.Plain(sheet, heads, tails, told).place()
                self.assertEqual(place_of(sheet, heads, tails, told), place)
                seen[place] += 1
            for given in samples.twisted([heads, tails])[::7]:
                if isinstance(given, list) and len(given) == 2:
                    place = books.Plain(sheet, given[0], given[1], shown).place()
                    self.assertEqual(place_of(sheet, given[0], given[1], shown), place)
                    seen[place] += 1
        self.assertGreater(min(seen.values()), 50)

    def test_rows_that_other_keys_tell_likewise(self):
        """What is told is exchanged for a trace by all keys at once, so that more of it is right."""
        right = 0
        for seed in range(150):
            luck, ground, machine, heads, tails = self.draw(seed)
            sheet = machine.sheet
            shown = books.shown_of(ground, machine, heads, tails)
            things = [None, END, NEVER] + [("do", row[0]) for row in sheet.steps()]
            traces = sorted({(key[0], key[1] + tail) for key in shown for tail in tails})
            for _ in range(30):
                changes = {luck.choice(traces): luck.choice(things) for _ in range(luck.choice([1, 2, 3]))}
                told = {}
                for key, row in shown.items():
                    row = [changes.get((key[0], key[1] + tail), one) for tail, one in zip(tails, row)]
                    told[key] = tuple(row)
                place = books.Plain(sheet, heads, tails, told).place()
                self.assertEqual(place_of(sheet, heads, tails, told), place)
                right += place is None and told != shown
        self.assertGreater(right, 50)

    def test_twisted_books(self):
        for seed in range(6):
            luck, ground, machine, heads, tails = self.draw(seed)
            shown = books.shown_of(ground, machine, heads, tails)
            for told in samples.twisted(shown)[::5]:
                place = books.Plain(machine.sheet, heads, tails, told).place()
                self.assertEqual(place_of(machine.sheet, heads, tails, told), place)


class Gaps(unittest.TestCase):
    def test_open(self):
        book = LogBook(SHEET, HEADS, [()], SHOWN)
        self.assertEqual(forms(book.gap()), forms(("open", (NO, (TO_NO,)))))
        book = book_of(ONCE, HEADS + [(NO, (TO_NO,))], [()])
        self.assertEqual(book.gap(), ("open", (NO, (TO_YES,))))
        self.assertIsNone(book_of(ONCE, HEADS + [(NO, (TO_NO,)), (YES, (TO_YES,))], [()]).gap())

    def test_split(self):
        machine = machine_of(Program(SHEET, (("do", "s", ()), ("do", "s", ()))))
        heads = HEADS + [(NO, (TO_NO,)), (NO, (TO_YES,)), (NO, (TO_NO, TO_NO)), (NO, (TO_NO, TO_YES))]
        book = book_of(machine, heads, [()])
        self.assertEqual(forms(book.gap()), forms(("split", (NO, ()), (NO, (TO_NO,)), TO_NO)))
        self.assertIsNone(book_of(machine, heads, [(), (TO_NO,)]).gap())

    def test_whole(self):
        for point in (("out", ("end",)), ("round",), ("mark", "a", 0)):
            self.assertIsNone(book_of(Machine(SHEET, [point]), HEADS, [()]).gap())
        self.assertIsNone(learned(ONCE).gap())

    def test_a_sheet_without_steps_or_asks(self):
        bare = Sheet([], [], [])
        book = LogBook(bare, [((), [])], [()], {((), ()): (END,)})
        self.assertEqual([book.gap(), book.traces(), book.row(((), []))], [None, [((), ())], (END,)])
        self.assertEqual(place_of(bare, [((), [])], [()], {((), ()): (None,)}), 3)


if __name__ == "__main__":
    unittest.main()
