"""The examples that stand in the document for its files."""

import doctest
import unittest

PROGRAMS = """
>>> from fourfaces.programs import Program
>>> from fourfaces.rows import depth, how_many, paths, row_at
>>> from fourfaces.sheets import Sheet
>>> sheet = Sheet(["c", "d"], [("q", ["d"]), ("p", ["c"])], [("s", ["c"], ["ok", "bad"]), ("t", [], ["ok"])], [("after", "s", "bad", "p", True)])
>>> [sheet.names(), sheet.outcomes("s"), sheet.leaves("s"), sheet.leaves("t"), sheet.renamed("ask", {"q": "a"}).asks()[0]]
[['p', 'q'], ['bad', 'ok'], ['q'], ['p', 'q'], ('a', ('d',))]
>>> rows = (("loop", "l", (("do", "s", (("bad", (("leave", "l"),)),)), ("mark", "w"))), ("stop", "done"))
>>> [how_many(rows), depth(rows), paths(rows), row_at(rows, (0, 0, 0, 0, 0))]
[5, 3, [(0,), (0, 0, 0), (0, 0, 0, 0, 0), (0, 0, 1), (1,)], ('leave', 'l')]
>>> program = Program(sheet, rows)
>>> [program.around(("", (0, 0, 1))), program.led_to(("", (0, 0, 0, 0, 0))), program.names_in("mark"), program.out(("", (1,))) == program]
[[('', (0,))], ('', (0,)), ['w'], False]
"""

PLAYING = """
>>> from fourfaces.laying import machine_of, places_of, points_of
>>> from fourfaces.playing import played
>>> from fourfaces.programs import Program
>>> from fourfaces.sheets import Sheet
>>> from fourfaces.ways import exits, losses, lost_behind
>>> from fourfaces.worlds import World
>>> sheet = Sheet(["c"], [("p", ["c"])], [("s", ["c"], ["bad", "ok"])])
>>> done = ("do", "s", (("bad", (("raise", "e"),)),))
>>> program = Program(sheet, (("loop", "l", (("try", (done,), (), (("if", "p", (("leave", "l"),), ()),)),)),))
>>> machine = machine_of(program)
>>> machine.points()
[('do', 's', (('bad', 1), ('ok', 2))), ('ask', 'p', 3, 4), ('ask', 'p', 3, 0), ('out', ('end',)), ('out', ('raise', 'e'))]
>>> [machine.move(2, (False,)), places_of(program)[1], points_of(program, ("", (0, 0, 0, 1, 0)))]
[('do', 's', 0), ((), ('', (0, 0, 0, 1, 0)), (('raise', 'e'),)), [1, 2]]
>>> [exits(machine), losses(program), lost_behind(program, ((False,), [("s", "ok", (True,))]))]
[[('end',), ('raise', 'e')], [(('', (0, 0, 0)), ('raise', 'e'), ('leave', 'l'))], []]
>>> world = World(sheet, [((False,), {"s": ("ok", 1)}), ((True,), {"s": ("bad", 1)})])
>>> [world.keeps(), played(machine, world, 0), played(machine, world, 1)]
[True, ([('s', 'ok', 1)], ('out', ('end',))), ([('s', 'bad', 1)], ('out', ('end',)))]
"""

RINGS = """
>>> from fourfaces.laying import machine_of
>>> from fourfaces.leading import tree_of
>>> from fourfaces.machines import Machine
>>> from fourfaces.programs import Program
>>> from fourfaces.rings import crossing, door_road, doors, is_crossing, leads_back, passed
>>> from fourfaces.sheets import Sheet
>>> sheet = Sheet(["c"], [("p", ["c"])], [("s", ["c"], ["ok"])])
>>> both = Machine(sheet, [("ask", "p", 1, 2), ("mark", "a", 2), ("mark", "b", 1)])
>>> [doors(both, [1, 2]), is_crossing(both, ([1, 2], [0, 1], [0, 2])), passed(both)]
[[1, 2], True, [[0], [0, 1], [0, 2]]]
>>> single = Machine(sheet, [("do", "s", (("ok", 1),)), ("ask", "p", 2, 0), ("out", ("end",))])
>>> [crossing(single), leads_back(single), door_road(single, [0, 1], 0), door_road(single, [0, 1], 1)]
[None, [(1, 0)], [0], None]
>>> machine_of(Program(sheet, tree_of(single))) == single
True
"""

LEARNING = """
>>> from fourfaces.laying import machine_of
>>> from fourfaces.learning import book_of, learned, table_led
>>> from fourfaces.programs import Program
>>> from fourfaces.sheets import Sheet
>>> from fourfaces.tables import table_of
>>> sheet = Sheet(["c"], [("p", ["c"])], [("s", ["c"], ["ok"])])
>>> machine = machine_of(Program(sheet, (("do", "s", ()),)))
>>> book = book_of(machine, [((False,), []), ((True,), [])], [()])
>>> [len(book.traces()), book.row(((True,), [("s", "ok", (False,))])), book.gap()]
[6, (('out', ('end',)),), ('open', ((False,), (('s', 'ok', (False,)),)))]
>>> [learned(machine).gap(), table_led(learned(machine)) == table_of(machine), book.agrees(machine)]
[None, True, True]
"""

LOTS = """
>>> from fourfaces.laying import machine_of
>>> from fourfaces.lots import fewest_words, greatest_silent, least_telling, needed_words
>>> from fourfaces.programs import Program
>>> from fourfaces.runs import log, nodes, run_count, runs
>>> from fourfaces.sheets import Sheet
>>> from fourfaces.watches import sides, tells_beginnings, tells_runs, two_runs
>>> sheet = Sheet([], [("p", [])], [])
>>> machine = machine_of(Program(sheet, (("if", "p", (("mark", "a"),), (("mark", "b"),)), ("mark", "c"))))
>>> machine.points()
[('ask', 'p', 1, 2), ('mark', 'a', 3), ('mark', 'b', 3), ('mark', 'c', 4), ('out', ('end',))]
>>> [runs(machine, 9), run_count(machine), log(machine, ("a", "c"), [0, 1, 3, 4]), log(machine, ("a", "c"), [0, 1, 3])]
[[[0, 1, 3, 4], [0, 2, 3, 4]], 2, ['a', 'c'], ['a']]
>>> [len(nodes(machine)), nodes(machine)[:2]]
[7, [(0, ((False,), (True,))), (1, ((True,),))]]
>>> [tells_runs(machine, ("c",)), two_runs(machine, ("c",)), tells_runs(machine, ("a",)), tells_beginnings(machine, ("a",)), len(sides(machine, ("a",)))]
[False, ([0, 1, 3, 4], [0, 2, 3, 4]), True, True, 3]
>>> [least_telling(machine, "runs"), greatest_silent(machine, "runs"), fewest_words(machine, "runs"), needed_words(machine, "runs")]
[[('a',), ('b',)], [('c',)], 1, []]
"""

TORN = """
>>> from fourfaces.behind import can_points, count_runs, least_run, sure_points
>>> from fourfaces.laying import machine_of
>>> from fourfaces.programs import Program
>>> from fourfaces.sheets import Sheet
>>> from fourfaces.torn import lesser, log_fits
>>> sheet = Sheet([], [("p", [])], [])
>>> machine = machine_of(Program(sheet, (("if", "p", (("mark", "a"),), (("mark", "b"),)), ("mark", "c"))))
>>> watch = ("a", "b", "c")
>>> [count_runs(machine, watch, ["?", "c"]), least_run(machine, watch, ["?", "c"]), sure_points(machine, watch, ["*"]), can_points(machine, watch, ["a", "*"])]
[2, [0, 1, 3, 4], [0, 3, 4], [0, 1, 3, 4]]
>>> [log_fits(watch, ["*", "c"], ["a", "c"]), lesser(watch, ["?", "c"], ["*"]), lesser(watch, ["*"], ["?", "c"])]
[True, True, False]
"""


FRAMES = """
>>> from fourfaces.behind import can_points, count_runs, least_run, sure_points
>>> from fourfaces.frames import Frame, carried, told_back
>>> from fourfaces.laying import machine_of
>>> from fourfaces.machines import Machine
>>> from fourfaces.moves import Yard
>>> from fourfaces.programs import Program
>>> from fourfaces.sheets import Sheet
>>> from fourfaces.torn import lesser, log_fits
>>> from fourfaces.worlds import World
>>> sheet = Sheet([], [("p", [])], [])
>>> machine = machine_of(Program(sheet, (("if", "p", (("mark", "a"),), (("mark", "b"),)), ("mark", "c"))))
>>> watch = ("a", "b", "c")
>>> [count_runs(machine, watch, ["?", "c"]), least_run(machine, watch, ["?", "c"]), sure_points(machine, watch, ["*"]), can_points(machine, watch, ["a", "*"])]
[2, [0, 1, 3, 4], [0, 3, 4], [0, 1, 3, 4]]
>>> [log_fits(watch, ["*", "c"], ["a", "c"]), lesser(watch, ["?", "c"], ["*"]), lesser(watch, ["*"], ["?", "c"])]
[True, True, False]
>>> frame = Frame(machine, World(sheet, [((True,), {})]), 0)
>>> [frame.go(2), frame.point(), frame.points(), frame.log(("a",)), told_back(machine, ("a",), ["a"], 3)]
[2, 3, [0, 1, 3], ['a'], [0, 1, 3]]
>>> other = Machine(sheet, [("out", ("end",))])
>>> [len(carried(frame, other)), carried(frame, other)[0].point()]
[1, 0]
>>> yard = Yard([machine, other], [(0, 3, 1, 0)])
>>> [yard.is_safe(), len(yard.stands()), yard.lapse(), yard.harmless(), yard.needless()]
[True, 10, None, [(0, 3, 1, 0)], []]
"""


class Examples(unittest.TestCase):
    def check(self, name, text):
        example = doctest.DocTestParser().get_doctest(text, {}, name, None, 0)
        told = []
        result = doctest.DocTestRunner(verbose=False).run(example, out=told.append)
        self.assertEqual(result.failed, 0, "".join(told))
        self.assertGreater(result.attempted, 5)

    def test_programs(self):
        self.check("programs", PROGRAMS)

    def test_playing(self):
        self.check("playing", PLAYING)

    def test_rings_and_leading(self):
        self.check("rings", RINGS)

    def test_learning(self):
        self.check("learning", LEARNING)

    def test_runs_watches_and_lots(self):
        self.check("lots", LOTS)

    def test_torn_and_behind(self):
        self.check("torn", TORN)

    def test_frames_and_moves(self):
        self.check("frames", FRAMES)


if __name__ == "__main__":
    unittest.main()
