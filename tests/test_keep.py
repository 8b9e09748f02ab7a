"""Stage 9: differences of worlds, and rings of kept worlds."""

import unittest
from itertools import combinations, product

from helper import JUNK, MODULUS, Dice, check_order, error_of, number_error
from settledplay.keep.parts import applied, difference, is_difference, size
from settledplay.keep.ring import Ring
from settledplay.play.step import plain_worlds
from settledplay.world.worlds import World

ONE = World(4, 6, 9, ((0, "hero", (2, 2, 0)), (2, "coin", (5, 2)), (5, "dot", (1,))))
WORLDS = [(value, ("InvalidWorld",)) for value in JUNK if not isinstance(value, World)]
EMPTY = (5, 6, 9, (), (), ())
FAR = 10 ** 60 - 1
COIN = (3, "coin", (1, 2))
# Each is no difference.
WRONG = [value for value in JUNK] + [
    list(EMPTY), EMPTY[:5], (*EMPTY, ()), (-1, *EMPTY[1:]), (True, *EMPTY[1:]), (10 ** 60, *EMPTY[1:]), (5, -1, *EMPTY[2:]), (5, None, *EMPTY[2:]),
    (5, 6, MODULUS, (), (), ()), (5, 6, -1, (), (), ()), (5, 6, False, (), (), ()),
    (5, 6, 9, [], (), ()), (5, 6, 9, 2, (), ()), (5, 6, 9, (2, 1), (), ()), (5, 6, 9, (2, 2), (), ()), (5, 6, 9, (-1,), (), ()), (5, 6, 9, (True,), (), ()),
    (5, 6, 9, ("2",), (), ()), (5, 6, 9, (10 ** 60,), (), ()),
    (5, 6, 9, (), [], ()), (5, 6, 9, (), COIN, ()), (5, 6, 9, (), ((4, "coin", (1,)), COIN), ()), (5, 6, 9, (), (COIN, COIN), ()),
    (5, 6, 9, (), (COIN, (3, "elf", (1,))), ()), (5, 6, 9, (), ((3, "Coin", (1,)),), ()), (5, 6, 9, (), ((3, "coin", ()),), ()),
    (5, 6, 9, (), ((3, "coin", (0,) * 9),), ()), (5, 6, 9, (), ((3, "coin", [1]),), ()), (5, 6, 9, (), ((3, "coin"),), ()),
    (5, 6, 9, (), ((3, "coin", (10 ** 9 + 1,)),), ()), (5, 6, 9, (), ((-3, "coin", (1,)),), ()), (5, 6, 9, (), ((True, "coin", (1,)),), ()),
    (5, 6, 9, (), (), []), (5, 6, 9, (), (), (0, 0, 1)), (5, 6, 9, (), (), ((0, 0),)), (5, 6, 9, (), (), ((0, 0, 1, 1),)), (5, 6, 9, (), (), ((0, 8, 1),)),
    (5, 6, 9, (), (), ((0, -1, 1),)), (5, 6, 9, (), (), ((-1, 0, 1),)), (5, 6, 9, (), (), ((0, 0, 10 ** 9 + 1),)), (5, 6, 9, (), (), ((0, True, 1),)),
    (5, 6, 9, (), (), ((0, 0, True),)), (5, 6, 9, (), (), ((0, 1, 1), (0, 0, 1))), (5, 6, 9, (), (), ((0, 1, 1), (0, 1, 2))),
    (5, 6, 9, (), (), ([0, 1, 1],)), (5, 6, 9, (), (), ((2, 0, 1), (0, 1, 1))),
    (5, 6, 9, (3,), (COIN,), ()), (5, 6, 9, (0, 3), (), ((3, 0, 1),)), (5, 6, 9, (), (COIN,), ((3, 1, 1),)), (5, 6, 9, (1, 3), (COIN,), ((1, 0, 1),)),
]
RIGHT = [
    EMPTY, (0, 0, 0, (), (), ()), (FAR, FAR, MODULUS - 1, (FAR,), (), ()), (5, 6, 9, (0, 1, 9), (), ()), (5, 6, 9, (), (COIN, (4, "ant", (0,) * 8)), ()),
    (5, 6, 9, (), (), ((0, 7, -10 ** 9), (1, 0, 10 ** 9), (1, 1, 0))), (5, 6, 9, (1, 4), (COIN,), ((0, 0, 1), (2, 0, 1), (2, 7, 1))),
    (5, 6, 9, tuple(range(40)), (), ()), (5, 6, 9, (), tuple((at, "ant", (1,)) for at in range(40)), ()),
    (5, 6, 9, (), (), tuple((at, 0, 1) for at in range(40))),
]


class PartsTest(unittest.TestCase):
    def test_is_difference(self):
        for value in RIGHT:
            self.assertIs(is_difference(value), True, value)
        for value in WRONG:
            self.assertIs(is_difference(value), False, value)

    def test_difference_by_hand(self):
        self.assertEqual(difference(ONE, ONE), (4, 6, 9, (), (), ()))
        other = World(7, 12, 8, ((0, "hero", (2, 3, -1)), (2, "dot", (5, 2)), (3, "elf", (4,)), (11, "coin", (9, 9))))
        self.assertEqual(difference(ONE, other), (
            7, 12, 8, (5,), ((2, "dot", (5, 2)), (3, "elf", (4,)), (11, "coin", (9, 9))), ((0, 1, 3), (0, 2, -1))))
        # Of the same kind, but with another number of numbers.
        longer = World(4, 6, 9, ((0, "hero", (2, 2, 0, 0)), (2, "coin", (5,)), (5, "dot", (2,))))
        self.assertEqual(difference(ONE, longer), (4, 6, 9, (), ((0, "hero", (2, 2, 0, 0)), (2, "coin", (5,))), ((5, 0, 2),)))
        self.assertEqual(difference(World(9, 9, 9, ((3, "dot", (1,)),)), World(0, 0, 0, ())), (0, 0, 0, (3,), (), ()))
        self.assertEqual(applied(ONE, difference(ONE, longer)), longer)

    def test_sizes(self):
        sizes = [3, 3, 4, 6, 3 + 3 + 9, 6, 3 + 2 + 3 + 3, 43, 83, 43]
        self.assertEqual([size(value) for value in RIGHT], sizes)
        for value in WRONG:
            self.assertEqual(error_of(size, value), ("InvalidOperation",))

    def test_applied_by_hand(self):
        self.assertEqual(applied(ONE, (5, 7, 0, (), ((2, "elf", (1, 2, 3)),), ((5, 0, 4), ))),
                         World(5, 7, 0, ((0, "hero", (2, 2, 0)), (2, "elf", (1, 2, 3)), (5, "dot", (4,)))))
        # Numbers that stay, and all things in the place of others.
        self.assertEqual(applied(ONE, (4, 6, 9, (), (), ((0, 0, 2), (5, 0, 1)))), ONE)
        self.assertEqual(applied(ONE, (4, 6, 9, (), ONE.things, ())), ONE)
        self.assertEqual(applied(ONE, (0, 6, 9, (0, 2), ((1, "ant", (1,)),), ())), World(0, 6, 9, ((1, "ant", (1,)), (5, "dot", (1,)))))

    def test_what_does_not_fit(self):
        for told, thing in (((1,), (), ()), 1), (((0, 3), (), ()), 3), (((), (), ((1, 0, 0),)), 1), (((), (), ((2, 2, 0),)), 2), (((), (), ((5, 1, 0),)), 5), \
                (((7,), (), ((0, 3, 0), (6, 0, 0))), 0), (((3, 7), (), ((6, 0, 0),)), 3), (((7,), (), ((6, 0, 0),)), 6), (((), (), ((0, 2, 0), (5, 7, 0))), 5), \
                (((FAR,), (), ()), FAR):
            self.assertEqual(error_of(applied, ONE, (5, 6, 9, *told)), ("Refused", repr(("fit", thing))), told)
            # It is told ahead of what it makes.
            self.assertEqual(error_of(applied, ONE, (5, 0, 9, *told)), ("Refused", repr(("fit", thing))), told)

    def test_what_makes_no_world(self):
        for told in ((5, 5, 9, (), (), ()), (5, 0, 9, (), (), ()), (5, 6, 9, (), ((6, "ant", (1,)),), ()), (5, 6, 9, (), ((7, "ant", (1,)),), ()),
                     (5, 40, 9, (), tuple((at, "ant", (1,)) for at in range(20, 30)), ()), (5, 40, 9, (), tuple((at, "ant", (1,)) for at in range(13)), ())):
            self.assertEqual(error_of(applied, ONE, told), ("Refused", repr(("world",))), told)
        self.assertEqual(len(applied(ONE, (5, 40, 9, (), tuple((at, "ant", (1,)) for at in range(20, 29)), ()))), 12)
        self.assertEqual(len(applied(ONE, (5, 40, 9, (0,), tuple((at, "ant", (1,)) for at in range(20, 30)), ()))), 12)
        self.assertEqual(applied(ONE, (5, 5, 9, (5,), (), ())).next_id, 5)

    def test_forth_and_back(self):
        dice = Dice(101)
        for _ in range(150):
            game = dice.game()
            one, joint = dice.world(game), dice.joint(game)
            for other in (dice.world(game), dice.near(one, joint)[0], World(1, FAR, 2, one.things[1:])):
                for first, second in ((one, other), (other, one)):
                    told = difference(first, second)
                    self.assertIs(is_difference(told), True)
                    self.assertEqual(applied(first, told), second)

    def test_the_least_size(self):
        """All differences that fit are tried: each id is left, goes, comes, or has some numbers told."""
        dice = Dice(102)
        for _ in range(25):
            one, other = [World(dice.random.randint(0, 3), 4, dice.random.randint(0, 2), tuple(
                (at, dice.some("ant", "bee"), tuple(dice.random.randint(0, 1) for _ in range(dice.random.randint(1, 2)))) for at in range(3)
                if dice.random.random() < 0.7)) for _ in range(2)]
            found = {}
            for choices in product(*[self.choices(one, other, thing) for thing in range(3)]):
                told = (other.tick, 4, other.luck, *[tuple(sorted(part for choice in choices for part in choice[at])) for at in range(3)])
                self.assertIs(is_difference(told), True)
                if error_of(applied, one, told) is None and applied(one, told) == other:
                    found[told] = size(told)
            least = [told for told in found if found[told] == min(found.values())]
            self.assertEqual(least, [difference(one, other)])

    def choices(self, one, other, thing):
        """What can be told of a thing: triples of what goes, what comes and what changes."""
        found = [((), (), ()), ((thing,), (), ())]
        if thing in other:
            kind, numbers = other.kind_of(thing), other.numbers(thing)
            found.append(((), ((thing, kind, numbers),), ()))
            pairs = [(thing, at, number) for at, number in enumerate(numbers)]
            found += [((), (), part) for many in range(1, len(pairs) + 1) for part in combinations(pairs, many)]
        return found

    def test_refused(self):
        check_order(self, difference, (ONE, ONE), (WORLDS, WORLDS))
        check_order(self, applied, (ONE, (5, 6, 9, (0,), (), ())), (WORLDS, [(value, ("InvalidOperation",)) for value in WRONG]))

    def test_what_is_not_true(self):
        other = World(4, 6, 9, ())
        self.assertNotEqual(size(difference(ONE, other)), size(difference(other, ONE)))


def ring_of(worlds, spacing):
    ring = Ring(worlds[0], spacing=spacing)
    for world in worlds[1:]:
        ring = ring.put(world)
    return ring


class RingTest(unittest.TestCase):
    def worlds(self, dice, many, first):
        """Worlds of ticks that follow one another, the first one of a told tick, each near the one ahead or far."""
        game = dice.game()
        worlds = [dice.world(game)]
        while len(worlds) < many:
            worlds.append(dice.some(dice.near(worlds[-1], dice.joint(game))[0], dice.world(game)))
        return [World(first + at, world.next_id, world.luck, world.things) for at, world in enumerate(worlds)]

    def test_each_world_comes_back(self):
        dice = Dice(111)
        for spacing in range(1, 7):
            for first in (0, 1, 2, 3, 5, 6, 7, 11, 59, 10 ** 59):
                many = dice.random.randint(1, 15)
                worlds = self.worlds(dice, many, first)
                ring = ring_of(worlds, spacing)
                ticks = range(first, first + many)
                self.assertEqual((ring.first, ring.last, ring.spacing, len(ring)), (first, first + many - 1, spacing, many))
                self.assertEqual([ring.world(tick) for tick in ticks], worlds)
                wholes = tuple(tick for tick in ticks if tick == first or tick % spacing == 0)
                self.assertEqual(ring.wholes, wholes)
                self.assertLessEqual(len(wholes), 1 + (many - 1 + spacing - 1) // spacing)
                works = [tick - max(whole for whole in wholes if whole <= tick) for tick in ticks]
                self.assertEqual([ring.work(tick) for tick in ticks], works)
                self.assertLessEqual(max(works), spacing - 1)

    def test_letting_go(self):
        dice = Dice(112)
        for _ in range(60):
            spacing, first, many = dice.random.randint(1, 6), dice.random.randint(0, 9), dice.random.randint(1, 14)
            worlds = self.worlds(dice, many, first)
            ring = ring_of(worlds, spacing)
            for tick in range(first, first + many):
                back, rest = ring.back_to(tick), ring.from_tick(tick)
                self.assertEqual((back.first, back.last), (first, tick))
                self.assertEqual(back, ring_of(worlds[:tick - first + 1], spacing))
                begin = max(whole for whole in ring.wholes if whole <= tick)
                self.assertEqual((rest.first, rest.last), (begin, first + many - 1))
                self.assertEqual(rest, ring_of(worlds[begin - first:], spacing))
                self.assertEqual(rest.wholes, tuple(whole for whole in ring.wholes if whole >= begin))
                for other in (back, rest, back.from_tick(tick)):
                    self.assertEqual([other.world(at) for at in range(other.first, other.last + 1)], worlds[other.first - first:other.last + 1 - first])
                if tick < first + many - 1:
                    self.assertEqual(back.put(worlds[tick - first + 1]), ring.back_to(tick + 1))
            self.assertEqual(ring, ring_of(worlds, spacing))

    def test_spacings_by_hand(self):
        worlds = [World(tick, 6, 9, ONE.things) for tick in range(4, 12)]
        for spacing, wholes in ((1, (4, 5, 6, 7, 8, 9, 10, 11)), (2, (4, 6, 8, 10)), (3, (4, 6, 9)), (4, (4, 8)), (5, (4, 5, 10)), (6, (4, 6))):
            self.assertEqual(ring_of(worlds, spacing).wholes, wholes)
        self.assertEqual(Ring(ONE).spacing, 2)
        self.assertEqual(ring_of(worlds, 3).from_tick(8).wholes, (6, 9))
        self.assertEqual(ring_of(worlds, 3).from_tick(5).wholes, (4, 6, 9))

    def test_ticks_of_a_ring(self):
        ring = ring_of([World(tick, 6, 9, ONE.things) for tick in range(4, 9)], 3)
        for tick in (4, 6, 8):
            self.assertIs(tick in ring, True)
        for value in [3, 9, 0, -4, 5 - 10 ** 9, "5", (5,), *JUNK]:
            self.assertIs(value in ring, False)
            for call in (ring.world, ring.work, ring.back_to, ring.from_tick):
                self.assertEqual(error_of(call, value), number_error(value))
        one = Ring(World(1, 6, 9, ()))
        self.assertEqual((1 in one, True in one, False in one), (True, False, False))
        self.assertEqual(error_of(one.world, True), number_error(True))
        for value in (ring, one):
            with self.assertRaises(TypeError):
                iter(value)

    def test_equal_rings(self):
        worlds = [World(tick, 6, 9, ONE.things) for tick in range(4, 9)]
        other = [*worlds[:2], World(6, 6, 8, ONE.things), *worlds[3:]]
        rings = [ring_of(worlds, 3), ring_of(worlds, 2), ring_of(worlds[:4], 3), ring_of(worlds[1:], 3), ring_of(other, 3)]
        for i, one in enumerate(rings):
            for k, value in enumerate(rings):
                self.assertEqual((one == value, one != value), (i == k, i != k))
            for value in JUNK:
                self.assertIs(one == value, False)
        self.assertEqual(ring_of(worlds, 3), ring_of(worlds[:2], 3).put(worlds[2]).put(worlds[3]).put(worlds[4]))

    def test_refused(self):
        for spacing in (0, 7, -1, True, None, "2", 10 ** 60, (1,)):
            self.assertEqual(error_of(Ring, ONE, spacing=spacing), number_error(spacing))
        for value, error in WORLDS:
            self.assertEqual(error_of(Ring, value, spacing=0), error)
            self.assertEqual(error_of(Ring(ONE).put, value), error)
        for tick in (0, 3, 4, 6, 10 ** 59):
            self.assertEqual(error_of(Ring(ONE).put, World(tick, 6, 9, ())), ("InvalidOperation",))
        for spacing in (1, 6):
            self.assertIsNone(error_of(Ring, ONE, spacing=spacing))

    def test_a_put_changes_nothing(self):
        ring = Ring(ONE, spacing=1)
        ring.put(World(5, 6, 9, ()))
        self.assertEqual((ring.last, ring.wholes, len(ring)), (4, (4,), 1))

    def test_plain_worlds_of_random_games(self):
        dice = Dice(113)
        for spacing in range(1, 7):
            game = dice.game()
            worlds = list(plain_worlds(game, tuple(dice.joint(game) for _ in range(20))))
            ring = ring_of(worlds, spacing)
            self.assertEqual([ring.world(tick) for tick in range(21)], worlds)

    def test_what_is_not_true(self):
        worlds = [World(tick, 6, 9, ONE.things) for tick in range(4, 9)]
        self.assertIn(5, ring_of(worlds[1:], 3).wholes)
        self.assertNotIn(5, ring_of(worlds, 3).wholes)


if __name__ == "__main__":
    unittest.main()
