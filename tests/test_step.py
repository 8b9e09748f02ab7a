"""Stage 7: steps, and the plain meaning of rows."""

import unittest

from helper import COINS, JUNK, ROW, Dice, Naive, check_order, error_of, strict
from settledplay.base.luck import next_luck
from settledplay.play.step import is_joint, is_next, is_row, next_world, plain, plain_worlds, step
from settledplay.rules.forms import Game
from settledplay.world.worlds import World, first_world, is_world_of

DOT = (("dot", (("n", 5),), None),)
GAMES = [(value, ("InvalidGame",)) for value in JUNK if value is not COINS]
WORLDS = [(value, ("InvalidWorld",)) for value in JUNK if not isinstance(value, World)]
WORLDS += [(World(0, 9, 0, ((1, "elf", (1,)),)), ("InvalidWorld",)), (World(0, 9, 0, ((1, "coin", (1, 2)),)), ("InvalidWorld",))]
WRONG_JOINTS = [*JUNK, (0,), (0, 0, 0), [0, 0], (0, 128), (-2, 0), (True, 0), (0, None), (0, "0"), (0, 10 ** 60), ((0,), 0)]
JOINTS = [(value, ("InvalidWord",)) for value in WRONG_JOINTS]
WRONG_ROWS = [value for value in JUNK if value != ()] + [((0, 0), value) for value in WRONG_JOINTS] + [[(0, 0)], (0, 0), ((1,),)]
ROWS = [(value, ("InvalidRow",)) for value in WRONG_ROWS]
EDGES = (-1, 0, 63, 64, 127)


def dots(*entries):
    return Game(DOT, entries, (), arena=(1, 1))


def numbers_of(world):
    return [thing[2][0] for thing in world.things]


class StepTest(unittest.TestCase):
    def test_entries_in_their_sequence(self):
        add, double = (("for", "dot", (("set", "n", (op, ("own", "n"), e)),)) for op, e in (("plus", 3), ("times", 2)))
        world = World(4, 9, 5, ((1, "dot", (1,)), (3, "dot", (2,))))
        self.assertEqual(numbers_of(next_world(dots(add, double), world, (0, 0))), [8, 10])
        self.assertEqual(numbers_of(next_world(dots(double, add), world, (0, 0))), [5, 7])
        self.assertEqual([record[:2] for record in step(dots(add, double), world, (0, 0))[1]], [(0, 1), (0, 3), (1, 1), (1, 3)])

    def test_each_run_is_on_the_world_that_the_run_ahead_left(self):
        give = ("for", "dot", (("each", "dot", "t", (("give", "t", "n", ("plus", ("of", "t", "n"), ("own", "n"))),)),))
        world = World(0, 9, 5, ((1, "dot", (1,)), (3, "dot", (10,))))
        # First 1 and 10 become 2 and 12; then the second one gives 14 and 24 or, with its own number last, 24.
        self.assertEqual(numbers_of(next_world(dots(give), world, (0, 0))), [14, 24])

    def test_tick_and_luck(self):
        draw = ("for", "dot", (("tell", 1, ("draw", 1000)), ("tell", 2, ("tick",))))
        world = World(4, 9, 5, ((1, "dot", (1,)), (3, "dot", (2,))))
        for entries in ((draw,), (draw, draw), (("move",),)):
            after, _, effects = step(dots(*entries), world, (0, 0))
            self.assertEqual((after.tick, after.luck, after.next_id), (5, next_luck(5), 9))
            self.assertEqual({number for code, number in effects if code == 2}, {4} if effects else set())

    def test_what_is_dropped_has_no_turn(self):
        drop = ("for", "dot", (("tell", 1, ("own", "n")), ("each", "dot", "t", (("when", ("less", ("own", "n"), ("of", "t", "n")), (("drop", "t"),), ()),))))
        world = World(0, 9, 5, ((1, "dot", (1,)), (3, "dot", (2,)), (4, "dot", (0,)), (5, "dot", (3,))))
        after, records, effects = step(dots(drop), world, (0, 0))
        self.assertEqual((after.ids("dot"), effects, [record[1] for record in records]), ((4,), ((1, 1), (1, 0)), [1, 4]))

    def test_what_is_made_has_no_turn_in_its_entry(self):
        make, tell = ("for", "dot", (("make", "dot", (("n", ("own", "n")),)),)), ("for", "dot", (("tell", 1, ("own", "n")),))
        world = World(0, 9, 5, ((1, "dot", (1,)), (3, "dot", (2,))))
        after, records, effects = step(dots(make, tell), world, (0, 0))
        self.assertEqual((after.ids("dot"), effects), ((1, 3, 9, 10), ((1, 1), (1, 2), (1, 1), (1, 2))))
        self.assertEqual([record[:2] for record in records], [(0, 1), (0, 3), (1, 1), (1, 3), (1, 9), (1, 10)])

    def test_ids_of_a_full_world(self):
        make = ("for", "dot", (("make", "dot", ()),))
        world = World(0, 40, 5, tuple((at, "dot", (at,)) for at in range(11)))
        after = next_world(dots(make), world, (0, 0))
        self.assertEqual((len(after), after.next_id, list(after)[-1]), (12, 41, 40))
        self.assertEqual(next_world(dots(make), after, (0, 0)).things, after.things)

    def test_a_move_entry_moves_each_body(self):
        after, records, _ = step(COINS, World(0, 9, 0, ((1, "hero", (2, 2, 3, 0, 0)), (2, "hero", (3, 2, 4, 1, 0)))), (2, 0))
        self.assertEqual([record[:2] for record in records], [(0, 1), (0, 2), (1, 1), (1, 2)])
        self.assertEqual([thing[2][:2] for thing in after.things], [(2, 2), (4, 3)])

    def test_records_and_effects_in_the_sequence_of_the_runs(self):
        dice = Dice(31)
        for _ in range(150):
            game = dice.game()
            after, records, effects = step(game, dice.world(game), dice.joint(game))
            self.assertEqual(effects, tuple(effect for record in records for effect in record[7]))
            self.assertEqual([record[0] for record in records], sorted(record[0] for record in records))
            self.assertEqual(len({record[:2] for record in records}), len(records))

    def test_a_second_engine_finds_the_same(self):
        dice = Dice(32)
        judged = 0
        for _ in range(500):
            game = dice.game()
            world, joint = dice.world(game), dice.joint(game)
            naive = Naive(game, world, joint)
            naive.step()
            after, records, effects = step(game, world, joint)
            if naive.is_cut:
                continue
            judged += 1
            self.assertEqual((after.tick, after.next_id, after.luck, after.things), naive.told())
            self.assertEqual(effects, tuple(naive.effects))
            self.assertEqual(strict(records), strict(tuple(naive.records)))
        self.assertGreater(judged, 450)

    def test_total(self):
        dice = Dice(33)
        for _ in range(200):
            game = dice.game()
            world, joint = dice.world(game), dice.joint(game)
            after = next_world(game, world, joint)
            self.assertEqual(after, step(game, world, joint)[0])
            self.assertIs(is_next(game, world, joint, after), True)
            for _ in range(3):
                after = next_world(game, after, dice.joint(game))
            self.assertEqual((after.tick, type(after)), (world.tick + 4, World))
            self.assertIs(is_world_of(game, after), True)

    def test_heard_words_alone(self):
        dice = Dice(34)
        for _ in range(200):
            game = dice.game()
            world, joint = dice.world(game), dice.joint(game)
            heard = tuple(0 if entry == -1 else entry % 64 for entry in joint)
            self.assertEqual(step(game, world, joint), step(game, world, heard))
        first = first_world(COINS)
        for one in EDGES:
            for other in EDGES:
                heard = tuple(0 if entry == -1 else entry % 64 for entry in (one, other))
                self.assertEqual(step(COINS, first, (one, other)), step(COINS, first, heard))
        self.assertNotEqual(next_world(COINS, first, (63, 62)), next_world(COINS, first, (62, 62)))

    def test_no_seat_no_keys(self):
        kinds = (("ant", (("n", 0), ("x", 0)), None), ("bee", (("seat", 0), ("n", 1)), None))
        row = (("set", "n", ("key", 0)), ("tell", 1, ("key", 1)))
        game = Game(kinds, (("for", "ant", row), ("for", "bee", row)), (), arena=(1, 1))
        without = World(0, 9, 0, ((1, "ant", (5, 5)),))
        self.assertEqual(len({str(next_world(game, without, (a, b)).things) for a in EDGES for b in EDGES}), 1)
        with_one = World(0, 9, 0, ((1, "bee", (1, 5)),))
        self.assertEqual(len({str(next_world(game, with_one, (a, b)).things) for a in EDGES for b in EDGES}), 2)

    def test_other_ids_in_the_same_sequence(self):
        dice = Dice(35)
        for _ in range(250):
            game = dice.game(plain=True)
            world, joint = dice.world(game), dice.joint(game)
            base = dice.some(0, 1000, 10 ** 60 - 100)
            ids = [base + at for at in sorted(dice.random.sample(range(40), len(world)))]
            named = dict(zip(world, ids))
            # What is made gets the next ids, in the same sequence.
            named.update({world.next_id + at: base + 40 + at for at in range(200)})
            told = tuple((named[thing], kind, numbers) for thing, kind, numbers in world.things)
            one, other = next_world(game, world, joint), next_world(game, World(world.tick, base + 40, world.luck, told), joint)
            self.assertEqual(other.things, tuple((named[thing], kind, numbers) for thing, kind, numbers in one.things))
            self.assertEqual((other.tick, other.luck, other.next_id - base - 40), (one.tick, one.luck, one.next_id - world.next_id))

    def test_ticks_and_ids_of_many_digits(self):
        far = 10 ** 60 - 1
        make = ("for", "dot", (("make", "dot", (("n", ("id",)),)), ("drop", "")))
        world = World(far, far, 5, ((far - 1, "dot", (1,)),))
        for many in range(1, 5):
            world = next_world(dots(make), world, (0, 0))
            self.assertEqual((world.tick, world.next_id, list(world)), (far + many, far + many, [far + many - 1]))
        self.assertEqual(numbers_of(world), [10 ** 9])

    def test_is_next(self):
        first = first_world(COINS)
        after = next_world(COINS, first, (2, 1))
        self.assertIs(is_next(COINS, first, (2, 1), World(1, 3, after.luck, after.things)), True)
        for value in (first, World(2, 3, after.luck, after.things), World(1, 4, after.luck, after.things),
                      World(1, 3, 0, after.things), World(1, 3, after.luck, after.things[1:]), after.things, *JUNK):
            self.assertIs(is_next(COINS, first, (2, 1), value), False)

    def test_refused(self):
        first = first_world(COINS)
        for function in (step, next_world):
            for joint in ((-1, 127), (64, 63), (0, 0)):
                check_order(self, function, (COINS, first, joint), (GAMES, WORLDS, JOINTS))
        check_order(self, is_next, (COINS, first, (0, 0), None), (GAMES, WORLDS, JOINTS, ()))
        four = Game(DOT, (("move",),), (), arena=(1, 1), seats=4)
        self.assertIsNone(error_of(step, four, first_world(four), (0, 1, 2, 3)))
        self.assertEqual(error_of(step, four, first_world(four), (0, 1, 2)), ("InvalidWord",))

    def test_what_is_not_true(self):
        one = World(0, 9, 0, ((1, "hero", (0, 0, 9, 0, 7)), (2, "hero", (5, 0, 0, 9, 7))))
        other = World(0, 9, 0, ((1, "hero", (5, 0, 0, 9, 7)), (2, "hero", (0, 0, 9, 0, 7))))
        mover = Game(COINS.kinds, (("move",),), (), arena=(12, 6))
        ends = [sorted(thing[2] for thing in next_world(mover, world, (0, 0)).things) for world in (one, other)]
        self.assertNotEqual(*ends)
        self.assertEqual(plain(COINS, ((0, 0),)), plain(COINS, ((4, 0),)))


class PlainTest(unittest.TestCase):
    def test_plain_is_step_by_step(self):
        dice = Dice(36)
        for _ in range(60):
            game = dice.game()
            row = tuple(dice.joint(game) for _ in range(6))
            worlds = list(plain_worlds(game, row))
            self.assertEqual(worlds[0], first_world(game))
            self.assertEqual(len(worlds), 7)
            for many in range(7):
                self.assertEqual((worlds[many], worlds[many].tick), (plain(game, row[:many]), many))
                if many:
                    self.assertIs(is_next(game, worlds[many - 1], row[many - 1], worlds[many]), True)

    def test_rows_of_any_length(self):
        self.assertEqual(plain(COINS, ()), first_world(COINS))
        self.assertEqual(plain(COINS, ((0, 0),) * 700).tick, 700)
        self.assertEqual(len(list(plain_worlds(COINS, ()))), 1)

    def test_stays_are_not_asked_for(self):
        self.assertEqual(plain(COINS, ((-1, -1), (2, -1), (-1, 2))).tick, 3)

    def test_refused(self):
        for function in (plain, lambda game, row: list(plain_worlds(game, row))):
            check_order(self, function, (COINS, ROW), (GAMES, ROWS))

    def test_errors_of_the_generator_come_with_its_first_element(self):
        for args, name in (((None, ROW), "InvalidGame"), ((COINS, ((1,),)), "InvalidRow")):
            made = plain_worlds(*args)
            self.assertEqual(error_of(next, made), (name,))

    def test_judges(self):
        for joint in ((0, 0), (-1, 127), (64, 63)):
            self.assertIs(is_joint(COINS, joint), True)
            self.assertIs(is_row(COINS, (joint, (0, 0))), True)
        self.assertIs(is_row(COINS, ()), True)
        for value in WRONG_JOINTS:
            self.assertIs(is_joint(COINS, value), False, value)
        for value in WRONG_ROWS:
            self.assertIs(is_row(COINS, value), False, value)
        for value, error in GAMES:
            self.assertEqual(error_of(is_joint, value, (0, 0)), error)
            self.assertEqual(error_of(is_row, value, ROW), error)


if __name__ == "__main__":
    unittest.main()
