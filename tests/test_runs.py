"""Stage 5: runs, what they read, and their records."""

import unittest

from helper import (COINS, JUNK, MODULUS, Dice, check_order, error_of, number_error)
from settledplay.base.luck import drawn
from settledplay.play.step import step
from settledplay.rules.forms import Game
from settledplay.rules.runs import has_same_reads, is_record, put_on, run, value_at
from settledplay.world.worlds import World, first_world

PLACE = (("x", 10), ("y", 20), ("dx", 0), ("dy", 0))
KINDS = (("hero", PLACE + (("seat", 0), ("n", 7)), (2, 2, True)), ("coin", PLACE, (1, 1, False)), ("dot", (("n", 5),), None))
HERO, COIN, DOT, LAST = (1, "hero", (3, 4, 5, 6, 1, 8)), (2, "coin", (4, 5, 0, 0)), (5, "dot", (50,)), (6, "dot", (60,))
WORLD = World(30, 9, 77, (HERO, COIN, DOT, LAST))
JOINT = (2, 65)
HUGE = 10 ** 60 - 1


def game_of(row, kind="hero", kinds=KINDS, seats=2):
    return Game(kinds, (("for", kind, row), ("move",)), (), arena=(30, 30), seats=seats)


def record_of(row, kind="hero", world=WORLD, joint=JOINT, thing=None):
    """The record of a row for the first thing of the kind."""
    game = game_of(row, kind, seats=len(joint))
    return run(game, world, joint, 0, world.ids(kind)[0] if thing is None else thing)


def parts(record):
    """A record by the names of its parts, without those that are empty."""
    names = ("entry", "id", "reads", "sets", "made", "dropped", "makes", "effects")
    return {name: part for name, part in zip(names, record) if name not in ("entry", "id") and part}


def told(e, kind="hero", world=WORLD, joint=JOINT):
    """The number that an expression makes, and the pairs that are read for it."""
    record = record_of((("tell", 1, e),), kind, world, joint)
    return record[7][0][1], record[2]


def field(thing, name, number):
    return (("field", thing, name), number)


class ExpressionsTest(unittest.TestCase):
    def test_numbers_and_fields(self):
        self.assertEqual(told(-3), (-3, ()))
        self.assertEqual(told(("own", "dy")), (6, (field(1, "dy", 6),)))
        self.assertEqual(told(("plus", ("own", "y"), ("own", "x"))), (7, (field(1, "x", 3), field(1, "y", 4))))

    def test_fields_of_others(self):
        record = record_of((("each", "dot", "t", (("tell", 3, ("of", "t", "n")),)),))
        self.assertEqual(parts(record), {"reads": (field(5, "n", 50), field(6, "n", 60), (("ids", "dot"), (5, 6))),
                                         "effects": ((3, 50), (3, 60))})

    def test_values(self):
        record = record_of((("let", "v", ("own", "n")), ("set", "n", 9), ("tell", 1, ("plus", ("var", "v"), ("own", "n")))))
        self.assertEqual(parts(record), {"reads": (field(1, "n", 8),), "sets": ((1, "n", 9),), "effects": ((1, 17),)})

    def test_keys(self):
        reads = (field(1, "seat", 1), (("key", 1), 1))
        self.assertEqual([told(("key", bit)) for bit in (0, 1, 5)], [(1, reads), (0, reads), (0, reads)])
        for entry, word in ((-1, 0), (0, 0), (63, 63), (64, 0), (127, 63), (74, 10)):
            for bit in range(6):
                number, reads = told(("key", bit), joint=(5, entry))
                self.assertEqual((number, reads[1]), (word >> bit & 1, (("key", 1), word)))

    def test_keys_of_no_seat(self):
        for seat in (-1, 2, 3, 10 ** 9, -10 ** 9):
            world = World(0, 9, 0, ((1, "hero", (3, 4, 5, 6, seat, 8)),))
            self.assertEqual(told(("key", 0), world=world, joint=(63, 63)), (0, (field(1, "seat", seat), (("key", seat), None))))
        self.assertEqual(told(("key", 0), "dot"), (0, (field(5, "seat", None),)))

    def test_keys_of_a_seat_that_was_set(self):
        record = record_of((("set", "seat", 0), ("tell", 1, ("key", 1))))
        self.assertEqual(parts(record), {"reads": ((("key", 0), 2),), "sets": ((1, "seat", 0),), "effects": ((1, 1),)})

    def test_tick_and_id(self):
        self.assertEqual(told(("tick",)), (30, ((("tick",), 30),)))
        self.assertEqual(told(("id",)), (1, ()))
        far = World(HUGE, HUGE, 0, ((HUGE - 1, "dot", (5,)),))
        self.assertEqual(told(("tick",), "dot", far), (10 ** 9, ((("tick",), HUGE),)))
        self.assertEqual(told(("id",), "dot", far), (10 ** 9, ()))
        edge = World(10 ** 9 - 1, 10 ** 9 + 1, 0, ((10 ** 9, "dot", (5,)),))
        self.assertEqual((told(("tick",), "dot", edge)[0], told(("id",), "dot", edge)[0]), (10 ** 9 - 1, 10 ** 9))

    def test_draws(self):
        row = (("tell", 1, ("draw", 1000)), ("tell", 2, ("if", 1, 5, ("draw", 6))), ("tell", 3, ("plus", ("draw", 6), ("draw", 1000))))
        record = record_of(row)
        draws = [drawn(77, 0, 1, turn, sides) for turn, sides in ((0, 1000), (1, 6), (2, 1000))]
        self.assertEqual(parts(record), {"reads": ((("luck",), 77),), "effects": ((1, draws[0]), (2, 5), (3, draws[1] + draws[2]))})
        game = Game(KINDS, (("move",), ("for", "dot", row[:1])), (), arena=(9, 9))
        self.assertEqual(run(game, WORLD, JOINT, 1, 6)[7], ((1, drawn(77, 1, 6, 0, 1000)),))

    def test_choices(self):
        for number, truth in ((0, 1), (1, 0), (-5, 0), (2, 0)):
            self.assertEqual(told(("not", number))[0], truth)
            self.assertEqual(told(("if", number, ("own", "x"), ("own", "y"))),
                             (4, (field(1, "y", 4),)) if number == 0 else (3, (field(1, "x", 3),)))
        self.assertEqual(told(("if", ("own", "n"), 1, 2)), (1, (field(1, "n", 8),)))

    def test_operations_ask_both_parts(self):
        for op in ("both", "any", "over", "least"):
            self.assertEqual(len(told((op, ("own", "x"), ("own", "y")))[1]), 2)
            self.assertEqual(len(told((op, 0, ("own", "y")))[1]), 1)
        self.assertEqual(told(("minus", ("own", "x"), 1))[0], 2)
        self.assertEqual(told(("times", 10 ** 9, ("own", "x")))[0], 10 ** 9)

    def test_count(self):
        reads = (field(5, "n", 50), field(6, "n", 60), (("ids", "dot"), (5, 6)))
        self.assertEqual(told(("count", "dot", "t", ("less", 55, ("of", "t", "n")))), (1, reads))
        self.assertEqual(told(("count", "dot", "t", -5)), (2, reads[2:]))
        self.assertEqual(told(("count", "hero", "t", 0)), (0, ((("ids", "hero"), (1,)),)))

    def test_meets(self):
        reads = (field(1, "x", 3), field(1, "y", 4), field(2, "x", 4), field(2, "y", 5), (("ids", "coin"), (2,)))
        self.assertEqual(told(("count", "coin", "t", ("meets", "t", 0))), (1, reads))
        for x, y, grown, truth in ((5, 4, 0, 0), (5, 4, 1, 1), (4, 6, 0, 0), (2, 4, 0, 0), (2, 3, 1, 1), (2, 3, 0, 0), (4, 4, -1, 0),
                                   (3, 5, -10 ** 9, 0), (10 ** 9, 4, 10 ** 9, 1)):
            world = World(0, 9, 0, (HERO, (2, "coin", (x, y, 0, 0))))
            self.assertEqual(told(("count", "coin", "t", ("meets", "t", grown)), world=world)[0], truth)
        self.assertEqual(told(("count", "hero", "t", ("meets", "t", 0)), "coin")[0], 1)
        self.assertEqual(told(("count", "hero", "t", ("meets", "t", ("own", "x"))))[1][2][0], ("ids", "hero"))

    def test_meets_of_dropped_things(self):
        tell = ("tell", 1, ("meets", "t", ("own", "dx")))
        for drop in ("", "t"):
            record = record_of((("each", "coin", "t", (("drop", drop), tell)),))
            self.assertEqual(record[7], ((1, 0),))
            self.assertEqual(record[2], ((field(1, "dx", 5),) if drop else ()) + ((("ids", "coin"), (2,)),))


class StatementsTest(unittest.TestCase):
    def test_set(self):
        record = record_of((("set", "n", 1), ("set", "dx", ("own", "n")), ("set", "n", 2), ("set", "x", ("own", "x"))))
        self.assertEqual(parts(record), {"reads": (field(1, "x", 3),), "sets": ((1, "dx", 1), (1, "n", 2), (1, "x", 3))})

    def test_give(self):
        record = record_of((("each", "dot", "t", (("give", "t", "n", ("plus", ("of", "t", "n"), 1)), ("tell", 1, ("of", "t", "n")))),))
        self.assertEqual(parts(record), {"reads": (field(5, "n", 50), field(6, "n", 60), (("ids", "dot"), (5, 6))),
                                         "sets": ((5, "n", 51), (6, "n", 61)), "effects": ((1, 51), (1, 61))})

    def test_when(self):
        for number, effects in ((0, ((2, 2),)), (1, ((1, 1),)), (-7, ((1, 1),))):
            self.assertEqual(record_of((("when", number, (("tell", 1, 1),), (("tell", 2, 2),)),))[7], effects)

    def test_dropped_things_are_zero_and_stay_so(self):
        row = (("set", "n", 3), ("drop", ""), ("set", "n", 4), ("tell", 1, ("own", "n")), ("tell", 2, ("key", 0)), ("tell", 3, ("id",)),
               ("drop", ""))
        self.assertEqual(parts(record_of(row)), {"dropped": ((1, "hero"),), "effects": ((1, 0), (2, 0), (3, 1))})
        row = (("each", "dot", "t", (("tell", 1, ("of", "t", "n")), ("give", "t", "n", 1), ("drop", "t"), ("give", "t", "n", ("own", "x")),
                                     ("tell", 2, ("of", "t", "n")))),)
        self.assertEqual(parts(record_of(row)), {
            "reads": (field(1, "x", 3), field(5, "n", 50), field(6, "n", 60), (("ids", "dot"), (5, 6))),
            "dropped": ((5, "dot"), (6, "dot")), "effects": ((1, 50), (2, 0), (1, 60), (2, 0))})

    def test_each_leaves_out_what_was_dropped_since(self):
        row = (("each", "dot", "t", (("tell", 1, ("of", "t", "n")), ("each", "dot", "u", (("drop", "u"),)))),)
        self.assertEqual(parts(record_of(row)), {"reads": (field(5, "n", 50), (("ids", "dot"), (5, 6))),
                                                 "dropped": ((5, "dot"), (6, "dot")), "effects": ((1, 50),)})

    def test_each_takes_what_is_there_when_it_begins(self):
        row = (("each", "dot", "t", (("make", "dot", (("n", ("of", "t", "n")),)),)), ("each", "dot", "t", (("tell", 1, ("of", "t", "n")),)),
               ("tell", 2, ("count", "dot", "t", 1)))
        record = record_of(row)
        self.assertEqual(record[4:7], (((9, "dot", (50,)), (10, "dot", (60,))), (), 2))
        self.assertEqual(record[7], ((1, 50), (1, 60), (1, 50), (1, 60), (2, 4)))
        self.assertEqual(record[2], (field(5, "n", 50), field(6, "n", 60), (("ids", "dot"), (5, 6)), (("many",), 4), (("next",), 9)))

    def test_first(self):
        def record(e):
            return record_of((("first", "dot", "t", e, (("tell", 1, ("of", "t", "n")),), (("tell", 2, 0),)),))

        self.assertEqual(parts(record(1)), {"reads": (field(5, "n", 50), (("ids", "dot"), (5, 6))), "effects": ((1, 50),)})
        self.assertEqual(record(("less", 55, ("of", "t", "n")))[7], ((1, 60),))
        self.assertEqual(parts(record(("of", "t", "n"))), {"reads": (field(5, "n", 50), (("ids", "dot"), (5, 6))), "effects": ((1, 50),)})
        self.assertEqual(parts(record(0)), {"reads": ((("ids", "dot"), (5, 6)),), "effects": ((2, 0),)})
        empty = record_of((("first", "coin", "t", 1, (), (("tell", 2, 0),)),), world=World(0, 9, 0, (HERO,)))
        self.assertEqual(parts(empty), {"reads": ((("ids", "coin"), ()),), "effects": ((2, 0),)})

    def test_make(self):
        record = record_of((("make", "coin", (("y", ("own", "x")), ("dx", 2))), ("make", "dot", ())))
        self.assertEqual(parts(record), {"reads": (field(1, "x", 3), (("many",), 4), (("next",), 9)),
                                         "made": ((9, "coin", (10, 3, 2, 0)), (10, "dot", (5,))), "makes": 2})
        row = (("make", "coin", (("x", ("draw", 6)), ("y", ("draw", 6)))),)
        self.assertEqual(record_of(row)[4], ((9, "coin", (drawn(77, 0, 1, 0, 6), drawn(77, 0, 1, 1, 6), 0, 0)),))

    def test_make_where_there_are_twelve(self):
        full = World(0, 40, 0, (HERO,) + tuple((at, "dot", (at,)) for at in range(20, 31)))
        record = record_of((("make", "dot", (("n", ("own", "n")),)),), world=full)
        self.assertEqual(parts(record), {"reads": (field(1, "n", 8), (("many",), 12))})
        record = record_of((("drop", ""), ("make", "dot", ()), ("make", "dot", ())), world=full)
        self.assertEqual(parts(record), {"reads": ((("many",), 12), (("next",), 40)), "made": ((40, "dot", (5,)),),
                                         "dropped": ((1, "hero"),), "makes": 1})

    def test_what_is_made_and_dropped(self):
        full = World(0, 40, 0, (HERO,) + tuple((at, "dot", (at,)) for at in range(20, 30)))
        row = (("make", "coin", ()), ("make", "coin", ()), ("each", "coin", "t", (("drop", "t"),)), ("make", "coin", (("x", 1),)))
        record = record_of(row, world=full)
        self.assertEqual(parts(record), {"reads": ((("ids", "coin"), ()), (("many",), 11), (("next",), 40)),
                                         "made": ((41, "coin", (1, 20, 0, 0)),), "makes": 2})

    def test_what_is_done_to_things_made_and_dropped(self):
        row = (("make", "coin", ()), ("each", "coin", "t", (("drop", "t"), ("give", "t", "x", 5), ("tell", 1, ("of", "t", "x")),
                                                           ("tell", 2, ("meets", "t", 0)), ("drop", "t"))))
        record = record_of(row, world=World(0, 9, 0, (HERO,)))
        self.assertEqual(parts(record), {"reads": ((("ids", "coin"), ()), (("many",), 1), (("next",), 9)), "makes": 1,
                                         "effects": ((1, 0), (2, 0))})

    def test_what_is_set_of_made_things(self):
        row = (("make", "dot", ()), ("each", "dot", "t", (("give", "t", "n", ("plus", 1, ("of", "t", "n"))),)))
        record = record_of(row)
        self.assertEqual((record[3], record[4]), (((5, "n", 51), (6, "n", 61)), ((9, "dot", (6,)),)))

    def test_meets_of_made_things(self):
        row = (("make", "coin", (("x", 4), ("y", 4))), ("each", "coin", "t", (("tell", 1, ("meets", "t", 0)),)))
        record = record_of(row, world=World(0, 9, 0, (HERO,)))
        self.assertEqual((record[7], record[2][:2]), (((1, 1),), (field(1, "x", 3), field(1, "y", 4))))
        self.assertEqual(len(record[2]), 5)

    def test_effects_in_turn(self):
        row = (("tell", 99, 2), ("tell", 0, 10 ** 9), ("tell", 99, 2))
        self.assertEqual(record_of(row)[7], ((99, 2), (0, 10 ** 9), (99, 2)))


class MovesTest(unittest.TestCase):
    def test_a_move_of_a_solid_body(self):
        far = (8, "hero", (3, 9, 1, 2, 0, 0))
        record = run(game_of(()), World(30, 9, 77, (HERO, COIN, DOT, far)), JOINT, 1, 1)
        reads = (field(1, "dx", 5), field(1, "dy", 6), field(1, "x", 3), field(1, "y", 4), field(8, "x", 3), field(8, "y", 9),
                 (("ids", "hero"), (1, 8)), (("kind", 1), "hero"))
        self.assertEqual(record, (1, 1, reads, ((1, "x", 8), (1, "y", 10)), (), (), 0, ()))

    def test_a_move_of_another_body(self):
        record = run(game_of(()), WORLD, JOINT, 1, 2)
        reads = (field(1, "x", 3), field(1, "y", 4), field(2, "dx", 0), field(2, "dy", 0), field(2, "x", 4), field(2, "y", 5),
                 (("ids", "hero"), (1,)), (("kind", 2), "coin"))
        self.assertEqual(record, (1, 2, reads, ((2, "x", 4), (2, "y", 5)), (), (), 0, ()))

    def test_ids_of_each_solid_kind(self):
        kinds = KINDS + (("wall", PLACE, (1, 9, True)),)
        game = game_of((), kinds=kinds)
        record = run(game, WORLD, JOINT, 1, 1)
        self.assertEqual([pair for pair in record[2] if pair[0][0] == "ids"], [(("ids", "hero"), (1,)), (("ids", "wall"), ())])

    def test_things_without_a_body_do_not_move(self):
        self.assertEqual(error_of(run, game_of(()), WORLD, JOINT, 1, 5), number_error(5))


class PlacesTest(unittest.TestCase):
    def test_values(self):
        game = game_of(())
        cases = [(("field", 1, "x"), 3), (("field", 1, "seat"), 1), (("field", 5, "n"), 50), (("field", 5, "x"), None),
                 (("field", 3, "x"), None), (("field", 1, "elf"), None), (("kind", 1), "hero"), (("kind", 3), None),
                 (("ids", "dot"), (5, 6)), (("ids", "elf"), None), (("many",), 4), (("next",), 9), (("key", 0), 2), (("key", 1), 1),
                 (("key", 2), None), (("key", -1), None), (("key", HUGE), None), (("key", -HUGE), None), (("luck",), 77),
                 (("tick",), 30), (("field", HUGE, "abcdefgh"), None)]
        for place, value in cases:
            found = value_at(game, WORLD, JOINT, place)
            self.assertEqual((found, type(found)), (value, type(value)), place)
        self.assertEqual(value_at(game, World(0, 0, 0, ()), JOINT, ("ids", "dot")), ())
        for entry, word in ((-1, 0), (0, 0), (63, 63), (64, 0), (127, 63)):
            self.assertEqual(value_at(game, WORLD, (0, entry), ("key", 1)), word)

    def test_refused(self):
        places = [("field", 1), ("field", 1, "x", 1), ("field", True, "x"), ("field", -1, "x"), ("field", "x", 1), ("field", 1, "X"),
                  ("field", 1, ""), ("kind",), ("kind", -1), ("kind", True), ("kind", "hero"), ("kind", 10 ** 60), ("ids",), ("ids", 1),
                  ("ids", "X"), ("ids", "abcdefghi"), ("many", 1), ("next", 1), ("key",), ("key", "a"), ("key", True), ("key", 10 ** 60),
                  ("luck", 1), ("tick", 1), ("tock",), ["tick"], ([], 1), ({},), "tick", ("field", 10 ** 60, "x"), (("tick",),), (None,)]
        places = [(value, ("InvalidPlace",)) for value in places + list(JUNK)]
        check_order(self, value_at, (game_of(()), WORLD, JOINT, ("tick",)), (*WRONG, places))


GAMES = [(value, ("InvalidGame",)) for value in JUNK if value is not COINS]
WORLDS = [(value, ("InvalidWorld",)) for value in JUNK if not isinstance(value, World)]
WORLDS += [(World(0, 9, 0, ((1, "elf", (1,)),)), ("InvalidWorld",)), (World(0, 9, 0, ((1, "dot", (1, 2)),)), ("InvalidWorld",))]
JOINTS = [(value, ("InvalidWord",)) for value in JUNK]
JOINTS += [(value, ("InvalidWord",)) for value in ((0,), (0, 0, 0), [0, 0], (0, 128), (-2, 0), (True, 0), (0, None), (0, "0"))]
WRONG = (GAMES, WORLDS, JOINTS)


class RefusedTest(unittest.TestCase):
    def test_run(self):
        game = game_of(())
        entries = [(value, number_error(value)) for value in (2, -1, True, None, "0", 10 ** 60, (0,))]
        things = [(value, number_error(value)) for value in (2, 5, 0, -1, True, None, "1", 10 ** 60, (1,), [1])]
        check_order(self, run, (game, WORLD, JOINT, 0, 1), (*WRONG, entries, things))
        self.assertEqual([error_of(run, game, WORLD, JOINT, 1, thing) for thing in (1, 2)], [None, None])

    def test_records(self):
        game = game_of(())
        records = [(value, ("InvalidRecord",)) for value in wrong_records()]
        good = run(game, WORLD, JOINT, 1, 1)
        check_order(self, has_same_reads, (game, WORLD, JOINT, good), (*WRONG, records))
        check_order(self, put_on, (game, WORLD, good), (GAMES, WORLDS, records))
        check_order(self, is_record, (game, WORLD, JOINT, good), (*WRONG, ()))
        for value in JUNK:
            self.assertIs(is_record(game, WORLD, JOINT, value), False)

    def test_records_of_other_games_have_the_form(self):
        record = (15, HUGE, ((("field", 3, "elf"), None), (("ids", "elf"), None), (("key", -5), None), (("kind", 3), None)), (), (), (), HUGE, ())
        self.assertIs(has_same_reads(game_of(()), WORLD, JOINT, record), False)
        empty = (0, 0, ((("ids", "elf"), ()), (("key", 0), 63), (("many",), 0), (("tick",), HUGE)), (), (), (), 0, ((99, 10 ** 9),))
        self.assertIs(has_same_reads(game_of(()), WORLD, JOINT, empty), False)
        after = put_on(game_of(()), WORLD, record)
        self.assertEqual((after.tick, after.next_id, after.luck, after.things), (30, 9 + HUGE, 77, WORLD.things))


FULL = (0, 1, ((("field", 1, "x"), 3), (("ids", "dot"), (5, 6)), (("key", 1), 1), (("kind", 1), "hero"), (("luck",), 77), (("many",), 4),
               (("next",), 9), (("tick",), 30)), ((1, "x", 4), (1, "y", 4)), ((9, "dot", (1,)), (10, "dot", (1,))),
        ((5, "dot"), (6, "dot")), 2, ((1, 1), (1, 1)))


def wrong_records():
    """Values that have not the form of a record."""
    wrong = list(JUNK) + [FULL[:-1], FULL + (1,), list(FULL)]

    def put(at, *values):
        wrong.extend(FULL[:at] + (value,) + FULL[at + 1:] for value in values)

    common = (None, True, [], "x", {}, 10 ** 60)
    for at in (0, 1, 6):
        put(at, -1, (), *common)
    for at in (2, 3, 4, 5, 7):
        put(at, (None,), ((),), ("x",), (FULL[at][0], FULL[at][1], 5), list(FULL[at]), (list(FULL[at][0]),), 5, *common)
    for at in (2, 3, 4, 5):
        put(at, FULL[at][::-1], (FULL[at][0],) * 2)
    put(2, ((("field", 1, "x"), 3), (("field", 1, "x"), 4)), ((("tock",), 3),), ((("tick",), 3, 3),), ((("tick", 1), 3),))
    for place, values in ((("field", 1, "x"), (True, 10 ** 9 + 1, -10 ** 9 - 1, "x", (3,))), (("kind", 1), ("X", "", 1, True)),
                          (("ids", "dot"), ([5, 6], (6, 5), (5, 5), (True,), (-1,), 5, tuple(range(13)))),
                          (("many",), (13, -1, True, None)), (("next",), (-1, True, None, 10 ** 60)), (("key", 1), (64, -1, True)),
                          (("luck",), (-1, MODULUS, True, None)), (("tick",), (-1, True, None, 10 ** 60))):
        put(2, *[((place, value),) for value in values])
    put(3, ((1, "x", 4), (1, "x", 5)), ((True, "x", 4),), ((-1, "x", 4),), ((1, "X", 4),), ((1, "x", True),), ((1, "x", 10 ** 9 + 1),),
        ((1, "x"),), ((5, "n", 1),), ((9, "n", 1),))
    put(4, ((True, "dot", (1,)),), ((9, "Dot", (1,)),), ((9, "dot", ()),), ((9, "dot", (True,)),), ((9, "dot"),),
        ((5, "dot", (1,)),), tuple((at, "dot", (1,)) for at in range(20, 33)))
    put(5, ((True, "dot"),), ((5, "Dot"),), ((5,),), ((-1, "dot"),), ((5, "dot", 1),), tuple((at, "dot") for at in range(20, 33)))
    put(7, ((100, 1),), ((-1, 1),), ((True, 1),), ((1, True),), ((1, 10 ** 9 + 1),), ((1,),), ((1, 1, 1),))
    return wrong


class RecordsTest(unittest.TestCase):
    def test_the_full_record_is_right(self):
        self.assertEqual(put_on(game_of(()), WORLD, FULL),
                         World(30, 11, 77, ((1, "hero", (4, 4, 5, 6, 1, 8)), COIN, (9, "dot", (1,)), (10, "dot", (1,)))))

    def test_put_on_refuses_what_does_not_go(self):
        def refused(**more):
            names = ("entry", "id", "reads", "sets", "made", "dropped", "makes", "effects")
            record = tuple(more.get(name, part) for name, part in zip(names, (0, 1, (), (), (), (), 0, ())))
            return error_of(put_on, game_of(()), WORLD, record)

        self.assertIsNone(refused())
        bad = ("InvalidOperation",)
        for dropped in (((3, "dot"),), ((5, "coin"),), ((5, "elf"),), ((5, "coin"), (5, "dot"))):
            self.assertEqual(refused(dropped=dropped), bad)
        for sets in (((3, "n", 1),), ((5, "x", 1),), ((5, "n", 1), (9, "n", 1))):
            self.assertEqual(refused(sets=sets), bad)
        made = ((9, "dot", (1,)),)
        self.assertIsNone(refused(made=made, makes=1))
        self.assertIsNone(refused(made=((10, "dot", (1,)),), makes=2))
        for things, makes in ((made, 0), (((10, "dot", (1,)),), 1), (((8, "dot", (1,)),), 5), (((9, "elf", (1,)),), 1),
                              (((9, "dot", (1, 2)),), 1), (((9, "dot", (1,)), (9, "dot", (2,))), 2), (((0, "dot", (1,)),), 5)):
            self.assertEqual(refused(made=things, makes=makes), bad)
        eight = tuple((at, "dot", (1,)) for at in range(9, 17))
        self.assertIsNone(refused(made=eight, makes=8))
        self.assertEqual(refused(made=eight + ((17, "dot", (1,)),), makes=9), bad)
        self.assertIsNone(refused(made=eight + ((17, "dot", (1,)),), makes=9, dropped=((5, "dot"),)))

    def test_is_record(self):
        game = game_of((("set", "x", ("plus", ("own", "x"), ("key", 0))), ("drop", "")))
        for entry, thing in ((0, 1), (1, 1), (1, 2)):
            record = run(game, WORLD, JOINT, entry, thing)
            self.assertIs(is_record(game, WORLD, JOINT, record), True)
            for at in range(8):
                for wrong in (None, True, (), [], 0, 7, record[at] + (1,) if at in (2, 3, 4, 5, 7) else record[at] + 1):
                    value = record[:at] + (wrong,) + record[at + 1:]
                    same = type(wrong) is type(record[at]) and wrong == record[at]
                    self.assertIs(is_record(game, WORLD, JOINT, value), same, (at, wrong))
            self.assertIs(is_record(game, WORLD, JOINT, list(record)), False)
            self.assertIs(is_record(game, WORLD, JOINT, record + (1,)), False)
        record = run(game, WORLD, JOINT, 0, 1)
        bent = record[:2] + (record[2][:-1] + ((("key", 1), True),),) + record[3:]
        self.assertEqual(bent, record)
        self.assertIs(is_record(game, WORLD, JOINT, bent), False)
        self.assertIs(is_record(game, WORLD, (0, 0), record), False)
        self.assertIs(is_record(game, WORLD, JOINT, (5,) + record[1:]), False)
        self.assertIs(is_record(game, WORLD, JOINT, (True,) + run(game, WORLD, JOINT, 1, 1)[1:]), False)

    def test_same_reads(self):
        row = (("each", "coin", "t", (("set", "x", ("plus", ("of", "t", "x"), ("key", 0))),)), ("tell", 1, ("draw", 5)),
               ("tell", 1, ("tick",)), ("make", "dot", ()))
        game = game_of(row)
        record = run(game, WORLD, JOINT, 0, 1)

        def same(tick=30, next_id=9, luck=77, things=WORLD.things, joint=JOINT, value=record):
            return has_same_reads(game, World(tick, next_id, luck, things), joint, value)

        self.assertIs(same(), True)
        self.assertIs(same(joint=(63, 1)), True)
        self.assertIs(same(things=((1, "hero", (9, 9, 9, 9, 1, 9)), (2, "coin", (4, 9, 9, 9)), (3, "dot", (1,)), (4, "dot", (1,)))), True)
        for more in (dict(tick=31), dict(next_id=10), dict(luck=78), dict(joint=(2, 0)), dict(things=WORLD.things[:3]),
                     dict(things=(HERO, (2, "coin", (5, 5, 0, 0)), DOT, LAST)), dict(things=(HERO, (3, "coin", (4, 5, 0, 0)), DOT, LAST)),
                     dict(things=WORLD.things[1:] + ((7, "dot", (1,)),)), dict(value=(2,) + record[1:]), dict(value=(1, 5, ()) + record[3:]),
                     dict(value=(0, 2, ()) + record[3:]), dict(value=(0, 99, ()) + record[3:])):
            self.assertIs(same(**more), False, more)


class MainRuleTest(unittest.TestCase):
    def test_runs_that_read_the_same_have_the_same_record(self):
        dice = Dice(21)
        found = {True: 0, False: 0}
        for _ in range(400):
            game = dice.game()
            world, joint = dice.world(game), dice.joint(game)
            other, further = dice.near(world, joint)
            for entry in range(len(game.entries)):
                for thing in world:
                    if error_of(run, game, world, joint, entry, thing):
                        continue
                    record = run(game, world, joint, entry, thing)
                    self.assertIs(has_same_reads(game, world, joint, record), True)
                    same = has_same_reads(game, other, further, record)
                    found[same] += 1
                    if same:
                        self.assertEqual(run(game, other, further, entry, thing), record)
                        self.assertIs(is_record(game, other, further, record), True)
                    else:
                        self.assertIs(is_record(game, other, further, record), False)
        self.assertTrue(min(found.values()) > 500, found)

    def test_each_read_place_has_the_told_value(self):
        dice = Dice(22)
        for _ in range(150):
            game = dice.game()
            world, joint = dice.world(game), dice.joint(game)
            for record in step(game, world, joint)[1][:1]:
                for place, value in record[2]:
                    found = value_at(game, world, joint, place)
                    self.assertEqual((found, type(found)), (value, type(value)))

    def test_a_record_that_is_put_on_makes_the_world_behind_the_run(self):
        dice = Dice(23)
        for _ in range(300):
            game = dice.game()
            world, joint = dice.world(game), dice.joint(game)
            if world.next_id > 10 ** 59:
                continue
            end, records, _ = step(game, world, joint)
            now = world
            for record in records:
                self.assertIs(is_record(game, now, joint, record), True)
                now = put_on(game, now, record)
            self.assertEqual((now.tick, now.luck), (world.tick, world.luck))
            self.assertEqual((now.next_id, now.things), (end.next_id, end.things))

    def test_ids_and_ticks_that_outgrow_sixty_digits(self):
        game = Game(KINDS, (("for", "dot", (("make", "dot", ()), ("tell", 1, ("draw", 1000)), ("tell", 1, ("id",)), ("tell", 1, ("tick",)))),),
                    (), arena=(9, 9))
        world = step(game, World(HUGE, HUGE, 0, ((5, "dot", (1,)),)), (0, 0))[0]
        world = step(game, world, (0, 0))[0]
        self.assertEqual((world.tick, world.ids("dot")), (HUGE + 2, (5, HUGE, HUGE + 1, HUGE + 2)))
        record = run(game, world, (0, 0), 0, HUGE + 1)
        self.assertEqual((record[1], record[7][1:]), (HUGE + 1, ((1, 10 ** 9), (1, 10 ** 9))))
        self.assertIs(is_record(game, world, (0, 0), record), True)
        # An id of more than sixty digits can be there, but a record that is passed has none [0.1].
        self.assertEqual(error_of(put_on, game, world, record), ("InvalidRecord",))
        self.assertEqual(error_of(run, game, world, (0, 0), 0, HUGE + 3), number_error(HUGE + 3))


if __name__ == "__main__":
    unittest.main()
