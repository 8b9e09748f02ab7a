"""The examples of the document, as they stand there.

A line behind `>>>` is a statement, or an expression whose value, or error, the line below tells.
"""

import unittest

from helper import error_of
from settledplay.arena import boxes
from settledplay.base import luck, numbers
from settledplay.play import step
from settledplay.rules import forms, runs
from settledplay.world import worlds

VALUES = """
>>> PLACE = (("x", 0), ("y", 0), ("dx", 0), ("dy", 0))
>>> KINDS = (("hero", PLACE + (("seat", 0),), (1, 1, True)), ("coin", PLACE, (1, 1, False)))
>>> GRAB = ("first", "hero", "h", ("meets", "h", 0), (("tell", 1, ("of", "h", "seat")), ("drop", "")), ())
>>> ENTRIES = (("for", "hero", (("set", "dx", ("minus", ("key", 1), ("key", 0))),)), ("move",), ("for", "coin", (GRAB,)))
>>> START = (("hero", (2, 2, 0, 0, 0)), ("hero", (8, 2, 0, 0, 1)), ("coin", (5, 2, 0, 0)))
>>> COINS = Game(KINDS, ENTRIES, START, arena=(12, 6))
>>> ROW = ((2, 0), (2, 1), (0, 65))
"""
NUMBERS = """
>>> [clamped(-10 ** 12), worked("times", 100000, 100000), worked("over", -7, 2), worked("rest", -7, 2), worked("over", 5, 0)]
[-1000000000, 1000000000, -4, 1, 0]
"""
LUCK = """
>>> [next_luck(0), luck_ahead(271829), luck_ahead(0), next_luck(STILL) == STILL, luck_after(0, 3), luck_after(0, 10 ** 12), luck_before(776304030, 3)]
[271829, 0, 811430527, True, 776304030, 37247654, 0]
>>> [lucks_between(0, 776304030), lucks_between(0, 1), lucks_between(1, 0), lucks_between(5, 5), lucks_between(0, STILL), lucks_between(STILL, STILL)]
[3, 433376679, 566623257, 0, None, 0]
>>> [stirred(2), unstirred(271861), unstirred(0), spot_number(0, 0, 0, 0), spot_number(0, 0, 0, 1), spot_number(7, 1, 3, 0), turn_of(0, 0, 0, 941293244)]
[271861, 2, 237956216, 754833868, 941293244, 9532664, 1]
>>> [drawn(0, 0, 0, 0, 6), drawn(0, 0, 0, 1, 6), drawn(7, 1, 3, 1, 100), drawn(7, 1, 3, 0, 1)]
[4, 5, 99, 0]
>>> drawn(0, 0, 0, 0, 1001)
raises InvalidNumber(1001)
"""
WORLDS = """
>>> PLAIN = Game((("box", (("x", 3), ("y", 4)), None), ("dot", (("n", 0),), None)), (("move",),), (("box", (3, -4)), ("dot", (7,))), arena=(9, 9))
>>> first, more = first_world(PLAIN), made(first_world(PLAIN), "dot", (5,))
>>> [world_text(first), more[1], more[0].ids("dot"), first.ids("dot"), first.next_id, str(more[0]), 1 in first, True in first]
['0 2 0;0 box 3 -4;1 dot 7', 2, (1, 2), (1,), 2, 'world at 0 of 3 things', True, False]
>>> less = dropped(more[0], 2)
>>> [less == first, made(less, "dot", (5,))[1], read_world(world_text(less)) == less, value_of(PLAIN, less, 0, "y"), changed(first, 0, 1, 8).numbers(0)]
[False, 3, True, -4, (3, 8)]
>>> [is_world_of(PLAIN, less), is_world_of(PLAIN, World(4, 9, 0, ((5, "box", (1, 2, 3)),)))]
[True, False]
>>> read_world("0 2 0;0 box 3 04")
raises InvalidWorld
"""
GAMES = """
>>> [COINS.names, COINS.fields("coin"), work(COINS, 0), work(COINS, 2)]
[('hero', 'coin'), ('x', 'y', 'dx', 'dy'), 48, 732]
>>> [game_fault(KINDS, ENTRIES, START, arena=(0, 6)), game_fault(KINDS, (("for", "coin", (("set", "dx", ("own", "seat")),)),), START, arena=(12, 6))]
[('arena',), ('entries', 0, (2, 0, 2))]
"""
RUNS = """
>>> OPEN = first_world(COINS)
>>> run(COINS, OPEN, (2, 0), 0, 0)
(0, 0, ((('field', 0, 'seat'), 0), (('key', 0), 2)), ((0, 'dx', 1),), (), (), 0, ())
>>> [put_on(COINS, OPEN, run(COINS, OPEN, (2, 0), 0, 0)).things[0], value_at(COINS, OPEN, (2, 0), ("ids", "hero"))]
[(0, 'hero', (2, 2, 1, 0, 0)), (0, 1)]
>>> [has_same_reads(COINS, OPEN, (2, 5), run(COINS, OPEN, (2, 0), 0, at)) for at in (0, 1)]
[True, False]
"""
BOXES = """
>>> WALL, BALL = (5, 0, 1, 4), (1, 1, 2, 2)
>>> [reach((12, 6), BALL, (WALL,), "right", 9), barrier((12, 6), BALL, (WALL,), "right", 9), barrier((12, 6), BALL, (WALL,), "left", 9)]
[2, 0, -1]
>>> [moved_box((12, 6), BALL, (WALL,), 9, 9), moved_box((12, 6), (5, 1, 2, 2), (WALL,), 9, 0), moved_box((12, 6), (-3, 1, 2, 2), (), -4, 0), are_meeting((3, 1, 2, 2), WALL, grown=1)]
[(3, 4, 2, 2), (10, 1, 2, 2), (-3, 1, 2, 2), True]
>>> AT = (("x", 0), ("y", 0), ("dx", 0), ("dy", 0))
>>> RACE = Game((("car", AT, (2, 1, True)), ("dot", AT, (1, 1, False))), (("move",),), (("car", (0, 0, 4, 0)), ("car", (4, 0, 4, 0)), ("dot", (5, 0, -9, 1))), arena=(12, 6))
>>> [moved_thing(RACE, first_world(RACE), 0), move_all(RACE, first_world(RACE)).things[1:]]
[(2, 0), ((1, 'car', (8, 0, 4, 0)), (2, 'dot', (4, 1, -9, 1)))]
"""
STEPS = """
>>> FIRST = plain(COINS, ((2, 1), (2, 1)))
>>> [FIRST.tick, FIRST.things]
[2, ((0, 'hero', (4, 2, 1, 0, 0)), (1, 'hero', (6, 2, -1, 0, 1)), (2, 'coin', (5, 2, 0, 0)))]
>>> [step(COINS, FIRST, (2, 1))[2], next_world(COINS, FIRST, (2, 1)).things, next_world(COINS, FIRST, (66, -1)) == next_world(COINS, FIRST, (2, 0))]
[((1, 0),), ((0, 'hero', (5, 2, 1, 0, 0)), (1, 'hero', (6, 2, -1, 0, 1))), True]
>>> [len(list(plain_worlds(COINS, ROW))), plain(COINS, ROW).things[:2], is_row(COINS, ROW), is_joint(COINS, (128, 0))]
[4, ((0, 'hero', (4, 2, 0, 0, 0)), (1, 'hero', (6, 2, -1, 0, 1))), True, False]
>>> plain(COINS, ((1,),))
raises InvalidRow
"""


def names_of(*modules):
    """All names that the modules have."""
    return {name: value for module in modules for name, value in vars(module).items() if not name.startswith("__")}


def told(test, block, names):
    """Go through a block; its statements put their names to the others."""
    lines = block.strip().split("\n")
    for at, line in enumerate(lines):
        if not line.startswith(">>> "):
            continue
        code = line[len(">>> "):]
        answer = lines[at + 1] if at + 1 < len(lines) else ">>> "
        if answer.startswith(">>> "):
            exec(code, names)
        elif answer.startswith("raises "):
            name, _, kept = answer[len("raises "):].partition("(")
            wanted = (name, kept[:-1]) if kept else (name,)
            test.assertEqual(error_of(eval, code, names), wanted, code)
        else:
            test.assertEqual(repr(eval(code, names)), answer, code)


class ExamplesTest(unittest.TestCase):
    def check(self, block, *modules):
        values = names_of(forms)
        told(self, VALUES, values)
        told(self, block, {**values, **names_of(*modules)})

    def test_numbers(self):
        self.check(NUMBERS, numbers)

    def test_luck(self):
        self.check(LUCK, luck)

    def test_worlds(self):
        self.check(WORLDS, worlds)

    def test_games(self):
        self.check(GAMES, forms)

    def test_runs(self):
        self.check(RUNS, worlds, runs)

    def test_boxes(self):
        self.check(BOXES, worlds, boxes)

    def test_steps(self):
        self.check(STEPS, step)


if __name__ == "__main__":
    unittest.main()
