"""Stage 3: worlds and their things."""

import unittest

from helper import (COINS, JUNK, MODULUS, Dice, check_order, error_of, name_error, number_error, refused_all,
                    whole_choices)
from settledplay.play.step import next_world
from settledplay.rules.forms import Game
from settledplay.world.worlds import (World, changed, dropped, first_world, is_world_of, made, read_world, value_of,
                                      world_text)

PLAIN = Game((("box", (("x", 3), ("y", 4)), None), ("dot", (("n", 0),), None)), (("move",),),
             (("box", (3, -4)), ("dot", (7,))), arena=(9, 9))
BOX, DOT = (2, "box", (3, -4)), (5, "dot", (7,))
SOME = World(8, 9, 77, (BOX, DOT))
HUGE = 10 ** 60 - 1
TWELVE = tuple((at, "dot", (at,)) for at in range(12))
BAD_NAMES = ("", "X", "a1", "abcdefghi", None, True, 5, (), ["h"])
BAD_NUMBERS = ((), (1,) * 9, (True,), (None,), (10 ** 9 + 1,), (-10 ** 9 - 1,), [1], None, 5, "1")
NO_ID = [(value, name_error(value)) for value in (0, 4, -1, True, None, "2", (2,), [2], 10 ** 60)]
NO_WORLD = [(value, ("InvalidWorld",)) for value in JUNK if not isinstance(value, World)]


class WorldTest(unittest.TestCase):
    def test_properties(self):
        self.assertEqual((SOME.tick, SOME.next_id, SOME.luck, SOME.things), (8, 9, 77, (BOX, DOT)))
        empty = World(0, 0, 0, ())
        self.assertEqual((empty.tick, empty.next_id, empty.luck, empty.things, len(empty)), (0, 0, 0, (), 0))

    def test_bounds(self):
        for args in ((HUGE, HUGE, MODULUS - 1, ()), (0, 12, 0, TWELVE), (0, HUGE, 0, ((HUGE - 1, "dot", (1,)),)),
                     (0, 3, 0, ((2, "abcdefgh", (10 ** 9, -10 ** 9) * 4),))):
            self.assertIsNone(error_of(World, *args))

    def test_refused_parts(self):
        def checked(at, values):
            for value in values:
                args = [8, 9, 77, (BOX, DOT)]
                args[at] = value
                self.assertEqual(error_of(World, *args), ("InvalidWorld",), value)

        whole = [value for value, _ in whole_choices()]
        checked(0, whole)
        checked(1, whole + [5, 0])
        checked(2, whole + [MODULUS])
        checked(3, [[BOX, DOT], None, True, "box", 5, (BOX, BOX), (DOT, BOX), (BOX, None), (list(BOX),), (BOX[:2],),
                    (BOX + (1,),), ((9, "box", (1,)),), (BOX, (2, "dot", (1,)))])
        checked(3, [((value, "box", (1,)),) for value in whole])
        checked(3, [((2, value, (1,)),) for value in BAD_NAMES])
        checked(3, [((2, "box", value),) for value in BAD_NUMBERS])
        self.assertEqual(error_of(World, 0, 13, 0, TWELVE + ((12, "dot", (1,)),)), ("InvalidWorld",))
        self.assertIsNone(error_of(World, 0, 6, 0, (DOT,)))
        self.assertEqual(error_of(World, 0, 5, 0, (DOT,)), ("InvalidWorld",))
        for at in range(4):
            def call(value):
                args = [0, 0, 0, ()]
                args[at] = value
                return World(*args)
            refused_all(self, call, "InvalidWorld", (12,) if at == 3 else ())

    def test_ids(self):
        world = World(0, 40, 0, ((1, "a", (1,)), (2, "b", (1,)), (30, "a", (1,))))
        self.assertEqual((world.ids("a"), world.ids("b"), world.ids("c")), ((1, 30), (2,), ()))
        for value in JUNK:
            self.assertEqual(world.ids(value), ())

    def test_kinds_and_numbers_of_ids(self):
        self.assertEqual((SOME.kind_of(2), SOME.numbers(2), SOME.kind_of(5)), ("box", (3, -4), "dot"))
        one = World(0, 2, 0, ((0, "a", (1,)), (1, "b", (2,))))
        for value in (9, 2, *JUNK):
            self.assertEqual(error_of(one.kind_of, value), name_error(value))
            self.assertEqual(error_of(one.numbers, value), name_error(value))

    def test_membership(self):
        one = World(0, 2, 0, ((0, "a", (1,)), (1, "b", (2,))))
        self.assertEqual([value in one for value in (0, 1, 2, True, False)], [True, True, False, False, False])
        for value in JUNK:
            self.assertIs(value in one, False)

    def test_length_iteration_and_words(self):
        self.assertEqual((len(SOME), list(SOME), str(SOME)), (2, [2, 5], "world at 8 of 2 things"))
        self.assertEqual(str(World(3, 6, 0, (DOT,))), "world at 3 of 1 things")
        self.assertEqual(list(World(0, 0, 0, ())), [])

    def test_equality(self):
        self.assertTrue(SOME == World(8, 9, 77, (BOX, DOT)) and not SOME != World(8, 9, 77, (BOX, DOT)))
        for args in ((7, 9, 77, (BOX, DOT)), (8, 10, 77, (BOX, DOT)), (8, 9, 78, (BOX, DOT)), (8, 9, 77, (BOX,)),
                     (8, 9, 77, (BOX, (5, "dot", (8,)))), (8, 9, 77, (BOX, (5, "dat", (7,))))):
            self.assertTrue(SOME != World(*args) and not SOME == World(*args))
        for value in JUNK:
            self.assertIs(SOME == value, False)


class ChangesTest(unittest.TestCase):
    def test_made(self):
        world, number = made(SOME, "box", (1, 2))
        self.assertEqual((number, world), (9, World(8, 10, 77, (BOX, DOT, (9, "box", (1, 2))))))
        self.assertEqual(SOME, World(8, 9, 77, (BOX, DOT)))
        eleven = World(0, 50, 0, TWELVE[:11])
        full, number = made(eleven, "dot", (1,))
        self.assertEqual((number, len(full), full.next_id), (50, 12, 51))
        self.assertEqual(made(full, "dot", (1,)), (full, None))

    def test_dropped_and_changed(self):
        self.assertEqual(dropped(SOME, 2), World(8, 9, 77, (DOT,)))
        self.assertEqual(dropped(SOME, 5), World(8, 9, 77, (BOX,)))
        self.assertEqual(changed(SOME, 2, 1, -10 ** 9), World(8, 9, 77, ((2, "box", (3, -10 ** 9)), DOT)))
        self.assertEqual(changed(SOME, 5, 0, 10 ** 9), World(8, 9, 77, (BOX, (5, "dot", (10 ** 9,)))))
        self.assertEqual(changed(SOME, 5, 0, 7), SOME)

    def test_no_id_is_given_again(self):
        dice, world, seen = Dice(3), SOME, set(SOME)
        for _ in range(300):
            if len(world) and dice.random.random() < 0.5:
                world = dropped(world, dice.some(*world))
            else:
                was = world
                world, number = made(world, dice.some("a", "b"), (1,))
                self.assertEqual(number is None, len(was) == 12)
                self.assertEqual(world.next_id, was.next_id + (number is not None))
                self.assertNotIn(number, seen)
                seen.add(number)
                seen.discard(None)

    def test_refused(self):
        names = [(value, ("InvalidOperation",)) for value in BAD_NAMES]
        numbers = [(value, ("InvalidOperation",)) for value in BAD_NUMBERS]
        check_order(self, made, (SOME, "box", (1, 2)), (NO_WORLD, names, numbers))
        full = World(0, 12, 0, TWELVE)
        self.assertEqual(error_of(made, full, "dot", ()), ("InvalidOperation",))
        check_order(self, dropped, (SOME, 2), (NO_WORLD, NO_ID))
        places = [(value, number_error(value)) for value in (2, -1, True, None, "0", 10 ** 60, (0,))]
        wrong = [(value, ("InvalidOperation",)) for value in (10 ** 9 + 1, -10 ** 9 - 1, True, None, "1", (1,))]
        check_order(self, changed, (SOME, 2, 1, 5), (NO_WORLD, NO_ID, places, wrong))
        self.assertEqual(error_of(changed, SOME, 5, 1, 5), number_error(1))

    def test_ids_and_ticks_that_outgrow_sixty_digits(self):
        world = World(HUGE, HUGE, 0, ())
        world, first = made(world, "box", (1, 2))
        world, second = made(world, "dot", (3,))
        self.assertEqual((first, second, world.next_id), (HUGE, HUGE + 1, HUGE + 2))
        self.assertTrue(second in world and world.numbers(second) == (3,) and list(world) == [first, second])
        self.assertEqual(dropped(world, second).ids("dot"), ())
        self.assertEqual(changed(world, second, 0, 4).numbers(second), (4,))
        self.assertEqual(value_of(PLAIN, world, second, "n"), 3)
        self.assertEqual(next_world(PLAIN, world, (0, 0)).tick, HUGE + 1)
        self.assertEqual(read_world(world_text(world)), world)
        self.assertEqual(error_of(World, HUGE + 1, 0, 0, ()), ("InvalidWorld",))

    def test_what_is_not_true(self):
        self.assertEqual(dropped(SOME, 5).next_id, 9)
        self.assertNotEqual(World(1, 9, 77, (BOX,)), World(2, 9, 77, (BOX,)))
        self.assertNotEqual(made(dropped(SOME, 5), "dot", (7,))[0], SOME)


class GamesTest(unittest.TestCase):
    def test_first_world(self):
        self.assertEqual(first_world(PLAIN), World(0, 2, 0, ((0, "box", (3, -4)), (1, "dot", (7,)))))
        lucky = Game(PLAIN.kinds, PLAIN.entries, (), arena=(1, 1), luck=55)
        self.assertEqual(first_world(lucky), World(0, 0, 55, ()))
        refused_all(self, first_world, "InvalidGame", (24,))

    def test_is_world_of(self):
        self.assertTrue(is_world_of(PLAIN, SOME) and is_world_of(PLAIN, World(0, 0, 0, ())))
        for things in (((1, "boy", (1, 2)),), ((1, "box", (1,)),), ((1, "box", (1, 2, 3)),), ((1, "dot", (1, 2)),), (BOX, (6, "x", (1,)))):
            self.assertIs(is_world_of(PLAIN, World(0, 9, 0, things)), False)
        for value in JUNK:
            self.assertIs(is_world_of(PLAIN, value), isinstance(value, World))
        refused_all(self, lambda value: is_world_of(value, SOME), "InvalidGame", (24,))

    def test_value_of(self):
        told = [value_of(PLAIN, SOME, 2, "x"), value_of(PLAIN, SOME, 2, "y"), value_of(PLAIN, SOME, 5, "n")]
        self.assertEqual(told, [3, -4, 7])
        games = [(value, ("InvalidGame",)) for value in JUNK if value is not COINS]
        fields = [(value, name_error(value)) for value in ("n", "z", "", "X", None, True, 0, ("x",), ["x"])]
        strange = [(World(0, 9, 0, ((2, "boy", (1,)),)), ("InvalidWorld",))]
        check_order(self, value_of, (PLAIN, SOME, 2, "x"), (games, NO_WORLD + strange, NO_ID, fields))


class TextsTest(unittest.TestCase):
    def test_texts(self):
        self.assertEqual(world_text(SOME), "8 9 77;2 box 3 -4;5 dot 7")
        self.assertEqual(world_text(World(0, 0, 0, ())), "0 0 0")
        refused_all(self, world_text, "InvalidWorld", (25,))

    def test_each_world_is_read_back(self):
        dice = Dice(5)
        worlds_seen = {}
        for _ in range(200):
            world = dice.world(dice.game())
            text = world_text(world)
            self.assertEqual(read_world(text), world)
            self.assertEqual(worlds_seen.setdefault(text, world), world)

    def test_texts_of_no_world(self):
        wrong = ["", " ", ";", "0 2", "0 2 0 0", "0 2 0;", "0 2 0;;", "00 2 0", "0 02 0", "0 2 00", "-1 2 0", "0 -2 0", "0 2 -1",
                 "+0 2 0", "0 2 0 ", " 0 2 0", "0  2 0", "0 2 0\n", "0\t2 0", f"0 2 {MODULUS}", "0 2 0;0", "0 2 0;0 box", "0 2 0;0 box ",
                 "0 2 0;0 box  3", "0 2 0;0 box 3 ", "0 2 0; 0 box 3", "0 2 0;0 Box 3", "0 2 0;0 boxboxbox 3", "0 2 0;0 b0x 3",
                 "0 2 0;0 box 03", "0 2 0;0 box -0", "0 2 0;0 box +3", "0 2 0;0 box --3", "0 2 0;0 box 3-", "0 2 0;0 box x",
                 "0 2 0;0 box 1000000001", "0 2 0;0 box -1000000001", "0 2 0;00 box 3", "0 2 0;-1 box 3", "0 2 0;2 box 3",
                 "0 2 0;1 box 3;0 box 3", "0 2 0;0 box 3;0 box 3", "0 2 0;0 box 1 2 3 4 5 6 7 8 9", "0 2 0;0 box 3;", "0 2 0,0 box 3",
                 "0 2 0;0 box 3.0", "0 2 0;0 box 1_0", "1_0 20 0", "a 2 0", "0 a 0", "\u0663 4 0", "0 \u00b2 0", "0 2 0;0 box \u0663",
                 "0 2 0;0 b\u00f6x 3", "0 2 a", "0 2 0;a box 1",
                 "0 2 0;0 box 99999999999999999999"]
        for text in wrong:
            self.assertEqual(error_of(read_world, text), ("InvalidWorld",), text)
        for value in JUNK:
            self.assertEqual(error_of(read_world, value), ("InvalidWorld",), value)
        thirteen = ";".join(["0 20 0"] + [f"{at} dot 1" for at in range(13)])
        self.assertEqual(error_of(read_world, thirteen), ("InvalidWorld",))
        self.assertEqual(len(read_world(thirteen[:-len(";12 dot 1")])), 12)

    def test_edges_of_texts(self):
        self.assertEqual(read_world(f"0 2 {MODULUS - 1};1 box 1000000000 -1000000000 0 0 0 0 0 0").numbers(1)[:2], (10 ** 9, -10 ** 9))

    def test_texts_of_many_digits(self):
        nines = "9" * 4000
        less = nines[:-1] + "8"
        for digits in ("9" * 60, "9" * 61, "9" * 100, nines):
            world = read_world(f"{digits} {digits} 0")
            self.assertEqual((world.tick, world.next_id), (int(digits), int(digits)))
            self.assertEqual(world_text(world), f"{digits} {digits} 0")
        world = read_world(f"0 {nines} 0;{less} box 1 2")
        self.assertEqual(world.ids("box"), (int(less),))
        for text in (f"{nines}9 0 0", f"0 {nines}9 0", f"0 0 {nines}", f"0 {nines}9 0;{nines} box 1", f"0 {nines} 0;{nines} box 1", f"0 0 {nines}9"):
            self.assertEqual(error_of(read_world, text), ("InvalidWorld",))
        after = next_world(PLAIN, world, (0, 0))
        self.assertEqual((after.tick, after.things), (1, world.things))
        grown, number = made(world, "dot", (1,))
        self.assertEqual(number, int(nines))
        self.assertEqual(error_of(read_world, world_text(grown)), ("InvalidWorld",))



if __name__ == "__main__":
    unittest.main()
