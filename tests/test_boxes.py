"""Stage 6: boxes that move."""

import unittest

from helper import COINS, JUNK, Dice, check_order, error_of, name_error, number_error, overlap
from settledplay.arena.boxes import (MOST_UNITS, SIDES, are_meeting, barrier, box_of, meeting_pairs, move_all,
                                     moved_box, moved_thing, reach, reach_by_units, solid_around)
from settledplay.rules.forms import Game
from settledplay.world.worlds import World, changed, first_world

AT = (("x", 0), ("y", 0), ("dx", 0), ("dy", 0))
# A solid kind, one that is not solid, and one without a body; the fields of the second one stand otherwise.
TURNED = (("dy", 0), ("n", 5), ("y", 0), ("x", 0), ("dx", 0))
MIXED = Game((("car", AT, (2, 1, True)), ("fog", TURNED, (3, 2, False)), ("dot", AT, None)), (("move",),), (), arena=(20, 10))
MOST = 10 ** 9
BOX = (1, 1, 2, 2)
ARENA = (12, 6)


def wrong_boxes():
    bad = [(1, 1, 2), (1, 1, 2, 2, 2), [1, 1, 2, 2], (1, 1, 0, 2), (1, 1, 2, 0), (1, 1, 41, 2), (1, 1, 2, 41), (True, 1, 2, 2),
           (1, None, 2, 2), (1, 1, True, 2), (1, 1, 2, "2"), (MOST + 1, 1, 2, 2), (1, -MOST - 1, 2, 2), (1, 1, -1, 2)]
    return [(value, ("InvalidBox",)) for value in bad + list(JUNK)]


def wrong_others():
    bad = [(BOX,) * 25, [BOX], (BOX, None), None, BOX, (BOX, (1, 1, 0, 2)), True, "x", 5]
    return [(value, ("InvalidBox",)) for value in bad]


def wrong_arenas():
    bad = [(0, 6), (12, 0), (401, 6), (12, 401), (12,), (12, 6, 1), [12, 6], (True, 6), (12, None), None, 12, "12"]
    return [(value, ("InvalidBox",)) for value in bad]


WRONG_SIDES = [(value, name_error(value)) for value in ("", "Left", "top", None, True, 0, ("left",), ["left"], {})]
WRONG_MANY = [(value, number_error(value)) for value in (-1, MOST + 1, True, None, "1", 10 ** 60, (1,))]
WRONG_NUMBERS = [(value, number_error(value)) for value in (MOST + 1, -MOST - 1, True, None, "1", 10 ** 60, (1,))]


def boxes_of(dice, many):
    return tuple(dice_box(dice) for _ in range(many))


def dice_box(dice):
    rand = dice.random.randint
    return (rand(-6, 18), rand(-6, 12), rand(1, 4), rand(1, 4))


class MeetingTest(unittest.TestCase):
    def test_constants(self):
        self.assertEqual((SIDES, MOST_UNITS), (("left", "right", "low", "high"), 1000))

    def test_meeting(self):
        for one, other, told in (((0, 0, 1, 1), (0, 0, 1, 1), True), ((0, 0, 1, 1), (1, 0, 1, 1), False),
                                 ((0, 0, 2, 1), (1, 0, 1, 1), True), ((0, 0, 1, 1), (0, 1, 1, 1), False),
                                 ((0, 0, 40, 40), (39, 39, 1, 1), True), ((0, 0, 40, 40), (39, 40, 1, 1), False),
                                 ((-MOST, MOST, 1, 1), (-MOST, MOST, 40, 40), True), ((5, 0, 1, 9), (0, 5, 9, 1), True)):
            self.assertIs(are_meeting(one, other), told)
            self.assertIs(are_meeting(other, one), told)

    def test_meeting_is_to_have_a_place_in_common(self):
        dice = Dice(11)
        for _ in range(300):
            one, other = boxes_of(dice, 2)
            grown = dice.random.randint(-3, 4)
            places = [{(x, y) for x in range(b[0] - g, b[0] + b[2] + g) for y in range(b[1] - g, b[1] + b[3] + g)}
                      for b, g in ((one, grown), (other, 0))]
            self.assertIs(are_meeting(one, other, grown=grown), bool(places[0] & places[1]))

    def test_growing(self):
        self.assertIs(are_meeting((0, 0, 1, 1), (3, 3, 1, 1), grown=2), False)
        self.assertIs(are_meeting((0, 0, 1, 1), (3, 3, 1, 1), grown=3), True)
        self.assertIs(are_meeting((3, 3, 1, 1), (0, 0, 1, 1), grown=3), True)
        self.assertIs(are_meeting((0, 0, 4, 4), (1, 1, 1, 1), grown=-1), True)
        self.assertIs(are_meeting((0, 0, 4, 4), (1, 1, 1, 1), grown=-2), False)
        self.assertIs(are_meeting((0, 0, 4, 40), (1, 1, 1, 9), grown=-3), False)
        self.assertIs(are_meeting((0, 0, 1, 1), (0, 0, 1, 1), grown=-1), False)
        self.assertIs(are_meeting((MOST, 0, 1, 1), (-MOST, 0, 40, 1), grown=MOST), False)
        self.assertIs(are_meeting((MOST, 0, 1, 1), (0, 0, 1, 1), grown=MOST), True)
        self.assertIs(are_meeting((MOST, 0, 1, 1), (0, 0, 1, 1), grown=-MOST), False)

    def test_refused(self):
        check_order(self, are_meeting, (BOX, BOX, 5), (wrong_boxes(), wrong_boxes(), WRONG_NUMBERS), ("grown",))
        for box in ((MOST, -MOST, 1, 40), (0, 0, 40, 1)):
            self.assertIsNone(error_of(are_meeting, box, box))


class ReachTest(unittest.TestCase):
    def test_gaps(self):
        wall = (5, 0, 1, 4)
        for box, side, many, units in ((BOX, "right", 9, 2), (BOX, "right", 1, 1), (BOX, "left", 9, 1), (BOX, "low", 9, 1),
                                       (BOX, "high", 9, 3), ((8, 1, 2, 2), "left", 9, 2), ((8, 1, 2, 2), "right", 9, 2),
                                       ((1, 4, 2, 2), "right", MOST, 9), ((1, 3, 2, 2), "right", MOST, 2),
                                       (BOX, "right", 0, 0), ((5, 4, 1, 1), "low", 3, 0), ((4, 4, 1, 1), "low", 3, 3)):
            self.assertEqual(reach(ARENA, box, (wall,), side, many), units, (box, side))

    def test_boxes_that_meet_do_not_bar_one_another(self):
        self.assertEqual(reach(ARENA, (5, 1, 2, 2), ((5, 0, 1, 4),), "right", 9), 5)
        self.assertEqual(reach(ARENA, (4, 1, 2, 2), ((5, 0, 1, 4),), "right", 9), 6)
        self.assertEqual(reach(ARENA, (4, 1, 2, 2), ((5, 0, 1, 4), (8, 2, 1, 1)), "right", 9), 2)

    def test_who_is_outside_can_come_in(self):
        for box, side, units in (((-3, 0, 2, 2), "left", 0), ((-3, 0, 2, 2), "right", 13), ((15, 0, 2, 2), "right", 0),
                                 ((15, 0, 2, 2), "left", 15), ((0, -5, 2, 2), "low", 0), ((0, -5, 2, 2), "high", 9),
                                 ((0, 9, 2, 2), "high", 0), ((0, 9, 2, 2), "low", 9), ((-5, 9, 1, 1), "left", 0),
                                 ((0, 0, 40, 40), "right", 0), ((0, 0, 40, 40), "left", 0)):
            self.assertEqual(reach(ARENA, box, (), side, 99), units, (box, side))
            self.assertEqual(reach_by_units(ARENA, box, (), side, 99), units, (box, side))
        self.assertEqual(reach(ARENA, (-MOST, 0, 1, 1), (), "right", MOST), MOST)

    def test_reach_and_reach_by_units_agree(self):
        dice = Dice(12)
        for _ in range(1500):
            arena = (dice.random.randint(1, 12), dice.random.randint(1, 9))
            box, others = dice_box(dice), boxes_of(dice, dice.some(0, 1, 2, 5, 24))
            many = dice.some(0, 1, 2, 5, 30, 1000)
            for side in SIDES:
                units = reach(arena, box, others, side, many)
                self.assertEqual(units, reach_by_units(arena, box, others, side, many))
                self.assertEqual(units, units_by_words(arena, box, others, side, many))
                self.check_barrier(arena, box, others, side, many, units)

    def check_barrier(self, arena, box, others, side, many, units):
        found = barrier(arena, box, others, side, many)
        if units == many:
            return self.assertIsNone(found)
        before, after = by_units(box, side, units), by_units(box, side, units + 1)
        barring = [at for at, other in enumerate(others) if overlap(after, other) and not overlap(before, other)]
        self.assertEqual(found, barring[0] if barring else -1)

    def test_barriers(self):
        one, two = (5, 0, 1, 1), (5, 1, 1, 1)
        self.assertEqual(barrier(ARENA, (0, 0, 2, 2), (two, one), "right", 9), 0)
        self.assertEqual(barrier(ARENA, (0, 0, 2, 2), ((9, 0, 1, 1), one), "right", 9), 1)
        self.assertEqual(barrier(ARENA, (0, 0, 2, 2), ((12, 0, 1, 1),), "right", 99), 0)
        self.assertEqual(barrier(ARENA, (0, 0, 2, 2), ((13, 0, 1, 1),), "right", 99), -1)
        self.assertIsNone(barrier(ARENA, (0, 0, 2, 2), (one,), "right", 3))
        self.assertIsNone(barrier(ARENA, (3, 0, 2, 2), (one,), "right", 0))

    def test_refused(self):
        wrong = (wrong_arenas(), wrong_boxes(), wrong_others(), WRONG_SIDES, WRONG_MANY)
        for function in (reach, reach_by_units, barrier):
            check_order(self, function, (ARENA, BOX, (BOX,) * 24, "left", 5), wrong)
            self.assertIsNone(error_of(function, (400, 1), BOX, (), "high", 1000))
        for many in (1001, MOST):
            self.assertEqual(error_of(reach_by_units, ARENA, BOX, (), "left", many), ("TooMany", "1000"))
            self.assertIsNone(error_of(reach, ARENA, BOX, (), "left", many))
            self.assertEqual(error_of(reach_by_units, ARENA, BOX, (), "up", many), name_error("up"))
        moves = (wrong_arenas(), wrong_boxes(), wrong_others(), WRONG_NUMBERS, WRONG_NUMBERS)
        check_order(self, moved_box, (ARENA, BOX, (BOX,) * 24, MOST, -MOST), moves)

    def test_moves_of_boxes(self):
        wall = (5, 0, 1, 4)
        self.assertEqual(moved_box(ARENA, BOX, (wall,), 9, 9), (3, 4, 2, 2))
        self.assertEqual(moved_box(ARENA, (1, 4, 2, 2), (wall,), 9, -9), (10, 0, 2, 2))
        self.assertEqual(moved_box(ARENA, BOX, (), 0, 0), BOX)
        self.assertEqual(moved_box(ARENA, BOX, (), -MOST, MOST), (0, 4, 2, 2))
        self.assertEqual(moved_box(ARENA, (MOST, -MOST, 1, 1), (), -5, 7), (MOST - 5, 7 - MOST, 1, 1))
        self.assertEqual(moved_box(ARENA, (MOST, -MOST, 1, 1), (), MOST, -MOST), (MOST, -MOST, 1, 1))


def by_units(box, side, units):
    far = units if side in ("right", "high") else -units
    return (box[0] + far, box[1], *box[2:]) if side in ("left", "right") else (box[0], box[1] + far, *box[2:])


def units_by_words(arena, box, others, side, many):
    """Unit by unit as [6.2] tells."""
    for gone in range(many):
        before, after = by_units(box, side, gone), by_units(box, side, gone + 1)
        beyond = {"left": after[0] < 0, "right": after[0] + after[2] > arena[0], "low": after[1] < 0,
                  "high": after[1] + after[3] > arena[1]}
        if beyond[side] or any(overlap(after, other) and not overlap(before, other) for other in others):
            return gone
    return many


class ThingsTest(unittest.TestCase):
    def world(self, *things):
        return World(3, 99, 5, things)

    def test_boxes_of_things(self):
        world = self.world((1, "car", (4, 5, 0, 0)), (4, "fog", (0, 5, 7, -3, 0)), (6, "dot", (1, 1, 1, 1)), (9, "car", (0, 0, 0, 0)))
        self.assertEqual((box_of(MIXED, world, 1), box_of(MIXED, world, 4)), ((4, 5, 2, 1), (-3, 7, 3, 2)))
        self.assertEqual(solid_around(MIXED, world, 4), ((4, 5, 2, 1), (0, 0, 2, 1)))
        self.assertEqual((solid_around(MIXED, world, 1), solid_around(MIXED, world, 9)), (((0, 0, 2, 1),), ((4, 5, 2, 1),)))

    def test_solid_things_stop_all_others_do_not(self):
        world = self.world((1, "fog", (0, 0, 0, 3, 0)), (2, "car", (0, 0, 9, 0)), (3, "car", (5, 0, 1, 0)), (4, "fog", (0, 5, 0, 9, -9)))
        self.assertEqual(moved_thing(MIXED, world, 2), (3, 0))
        self.assertEqual(moved_thing(MIXED, world, 4), (7, 0))
        self.assertEqual(moved_thing(MIXED, world, 1), (3, 0))
        self.assertEqual(moved_thing(MIXED, world, 3), (6, 0))

    def test_the_move_of_all(self):
        world = self.world((1, "car", (0, 0, 9, 9)), (3, "dot", (1, 1, 1, 1)), (5, "car", (3, 0, 9, 0)), (7, "fog", (4, 5, 0, 0, -9)))
        after = move_all(MIXED, world)
        self.assertEqual(after.things, ((1, "car", (1, 9, 9, 9)), (3, "dot", (1, 1, 1, 1)), (5, "car", (12, 0, 9, 0)),
                                        (7, "fog", (4, 5, 4, 0, -9))))
        self.assertEqual((after.tick, after.next_id, after.luck), (3, 99, 5))

    def test_meeting_pairs(self):
        world = self.world((1, "car", (0, 0, 0, 0)), (2, "car", (1, 0, 0, 0)), (3, "fog", (0, 0, 0, 0, 0)), (10, "car", (2, 0, 0, 0)),
                           (11, "car", (0, 0, 0, 0)))
        self.assertEqual(meeting_pairs(MIXED, world), ((1, 2), (1, 11), (2, 10), (2, 11)))
        self.assertEqual(meeting_pairs(MIXED, self.world()), ())

    def test_refused(self):
        world = self.world((1, "car", (0, 0, 0, 0)), (6, "dot", (1, 1, 1, 1)))
        games = [(value, ("InvalidGame",)) for value in JUNK if value is not COINS]
        worlds = [(value, ("InvalidWorld",)) for value in JUNK if not isinstance(value, World)] + [(first_world(COINS), ("InvalidWorld",))]
        ids = [(value, name_error(value)) for value in (6, 0, 2, True, None, "1", 10 ** 60, (1,), [1])]
        for function in (box_of, solid_around, moved_thing):
            check_order(self, function, (MIXED, world, 1), (games, worlds, ids))
        for function in (move_all, meeting_pairs):
            check_order(self, function, (MIXED, world), (games, worlds))

    def test_a_move_makes_no_two_meet_and_keeps_inside(self):
        dice = Dice(13)
        for _ in range(300):
            game = dice.game()
            world = dice.world(game)
            after = move_all(game, world)
            self.assertLessEqual(set(meeting_pairs(game, after)), set(meeting_pairs(game, world)))
            for thing in world:
                if game.body(world.kind_of(thing)) and inside(game, box_of(game, world, thing)):
                    self.assertTrue(inside(game, box_of(game, after, thing)))
            self.assertEqual(moved_one_by_one(game, world), after)

    def test_mirrors(self):
        dice = Dice(14)
        for _ in range(300):
            game = dice.game()
            world = dice.world(game)
            for axis in (0, 1):
                self.assertEqual(move_all(game, mirrored(game, world, axis)), mirrored(game, move_all(game, world), axis))

    def test_other_ids_in_the_same_sequence(self):
        dice = Dice(15)
        for _ in range(200):
            game = dice.game()
            world = dice.world(game)
            ids = sorted(dice.random.sample(range(40), len(world)))
            told = [(number, kind, numbers) for number, (_, kind, numbers) in zip(ids, world.things)]
            after = move_all(game, World(world.tick, 40, world.luck, tuple(told)))
            self.assertEqual([thing[1:] for thing in after.things], [thing[1:] for thing in move_all(game, world).things])

    def test_what_is_not_true(self):
        one = self.world((1, "car", (0, 0, 9, 0)), (2, "car", (3, 0, 9, 0)))
        other = self.world((1, "car", (3, 0, 9, 0)), (2, "car", (0, 0, 9, 0)))
        ends = [sorted(thing[2] for thing in move_all(MIXED, world).things) for world in (one, other)]
        self.assertNotEqual(*ends)
        wall = (5, 2, 1, 4)
        self.assertNotEqual(moved_box(ARENA, (3, 1, 1, 1), (wall,), 3, 3), moved_box(ARENA, moved_box(ARENA, (3, 1, 1, 1), (wall,), 0, 3), (wall,), 3, 0))
        twice = moved_box(ARENA, moved_box(ARENA, (4, 1, 1, 1), (wall,), 1, 1), (wall,), 1, 1)
        self.assertNotEqual(twice, moved_box(ARENA, (4, 1, 1, 1), (wall,), 2, 2))


def inside(game, box):
    return 0 <= box[0] <= game.arena[0] - box[2] and 0 <= box[1] <= game.arena[1] - box[3]


def moved_one_by_one(game, world):
    """The move of all, by the moves of the single things."""
    for thing in world:
        if game.body(world.kind_of(thing)):
            x, y = moved_thing(game, world, thing)
            fields = game.fields(world.kind_of(thing))
            world = changed(changed(world, thing, fields.index("x"), x), thing, fields.index("y"), y)
    return world


def mirrored(game, world, axis):
    """The world with x (or y) and dx (or dy) mirrored."""
    things = []
    for thing, kind, numbers in world.things:
        fields, numbers = game.fields(kind), list(numbers)
        if game.body(kind):
            at, way = fields.index("xy"[axis]), fields.index(("dx", "dy")[axis])
            numbers[at] = game.arena[axis] - numbers[at] - game.body(kind)[axis]
            numbers[way] = -numbers[way]
        things.append((thing, kind, tuple(numbers)))
    return World(world.tick, world.next_id, world.luck, tuple(things))


if __name__ == "__main__":
    unittest.main()
