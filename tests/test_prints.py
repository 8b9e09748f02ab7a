"""Stage 20: prints, and seats that stray."""

import unittest

from helper import COINS, JUNK, MODULUS, PAIR, ROW, Dice, check_order, error_of, naive_print, refused_all
from settledplay.check.prints import (HEAD, PRINT_BASE, PRINT_MODULUS, first_stray, halved, is_print_paper, is_stray_paper, stray_paper,
                                      text_print, unlike_parts, world_print)
from settledplay.play.step import next_world, plain, plain_worlds
from settledplay.rules.forms import Game
from settledplay.world.worlds import World, changed, dropped, first_world, made, read_world, world_text

WORLDS = tuple(plain_worlds(COINS, ROW))
STILL = ((0, 0),) * 3
GAMES = [(value, ("InvalidGame",)) for value in JUNK if not isinstance(value, Game)]
ROWS = [(value, ("InvalidRow",)) for value in JUNK if value != ()]
ROWS += [(value, ("InvalidRow",)) for value in (((0,),), ((0, 128),), ((0, 0, 0),), ((True, 0),), [(0, 0)], ((0, 0), None))]
ALIEN = World(0, 1, 0, ((0, "elf", (1,)),))
REPORTS = [(value, ("InvalidOperation",)) for value in JUNK]
REPORTS += [(value, ("InvalidOperation",)) for value in (
    (*WORLDS, WORLDS[3]), list(WORLDS), (WORLDS[0], None), (WORLDS[0], ALIEN), (ALIEN,), WORLDS[0], (WORLDS[0], (0, 1)),
    (World(0, 1, 0, ((0, "coin", (1, 2, 3)),)),))]
PRINTS = [(value, ("InvalidOperation",)) for value in JUNK if value != (1,)]
PRINTS += [(value, ("InvalidOperation",)) for value in ([1], (999999937,), (-1,), (True,), (0, None), (1, "1"), (10 ** 60,), ((1,),))]


def naive_parts(one, other):
    """The unlike parts, part by part."""
    def part(world, name):
        if name == -1:
            return world.tick, world.next_id, world.luck
        return next((thing for thing in world.things if thing[0] == name), None)

    names = [-1, *range(max(one.next_id, other.next_id))]
    return tuple(name for name in names if part(one, name) != part(other, name))


def bent(dice, game, world):
    """A world of the game that is unlike another one in some part."""
    while True:
        what = dice.random.randrange(6)
        ids = world.ids(game.names[0])
        other = world
        if what == 0:
            other = World(world.tick + 1, world.next_id, world.luck, world.things)
        elif what == 1:
            other = World(world.tick, world.next_id + 1, world.luck, world.things)
        elif what == 2:
            other = World(world.tick, world.next_id, (world.luck + 1) % MODULUS, world.things)
        elif what == 3 and ids:
            other = dropped(world, dice.some(*ids))
        elif what == 4 and ids:
            other = changed(world, dice.some(*ids), 0, dice.random.randint(-3, 3))
        elif len(world) < 12:
            other = made(world, game.names[0], tuple(number for _, number in game.kinds[0][1]))[0]
        if other != world:
            return other


class PrintsTest(unittest.TestCase):
    def test_constants(self):
        self.assertEqual((PRINT_BASE, PRINT_MODULUS, HEAD), (31, 999999937, -1))

    def test_texts(self):
        dice = Dice(201)
        for _ in range(300):
            text = "".join(chr(dice.random.randint(32, 126)) for _ in range(dice.some(0, 1, 2, 7, 40, 300)))
            self.assertEqual(text_print(text), naive_print(text))
        self.assertEqual(text_print("~" * 20000), naive_print("~" * 20000))
        self.assertEqual([text_print(sign) for sign in " ~"], [32, 126])

    def test_no_text(self):
        for value in [value for value in JUNK if not isinstance(value, str)] + ["a\nb", "\x1f", "\x7f", "\xe9", "~" * 20001]:
            self.assertEqual(error_of(text_print, value), ("InvalidText",), value)

    def test_worlds(self):
        dice = Dice(202)
        for _ in range(50):
            world = dice.world(dice.game())
            self.assertEqual(world_print(world), naive_print(world_text(world)))
        self.assertEqual(world_print(WORLDS[0]), text_print("0 3 0;0 hero 2 2 0 0 0;1 hero 8 2 0 0 1;2 coin 5 2 0 0"))
        long = read_world("9" * 3000 + " 1 0")
        self.assertEqual(world_print(long), naive_print(world_text(long)))
        refused_all(self, world_print, "InvalidWorld", [at for at, value in enumerate(JUNK) if isinstance(value, World)])


class PartsTest(unittest.TestCase):
    def test_parts(self):
        dice = Dice(203)
        for _ in range(150):
            game = dice.game()
            one = dice.world(game)
            other = dice.some(one, dice.near(one, dice.joint(game))[0], dice.world(game))
            if max(one.next_id, other.next_id) < 100:
                self.assertEqual(unlike_parts(one, other), naive_parts(one, other))
            self.assertEqual(unlike_parts(one, other), unlike_parts(other, one))
            self.assertEqual(unlike_parts(one, other) == (), one == other)
            again = World(one.tick, one.next_id, one.luck, one.things)
            self.assertEqual(unlike_parts(one, again), ())

    def test_each_part_alone(self):
        base = World(4, 9, 7, ((2, "ant", (1, 2)), (5, "bee", (3,))))
        for other, parts in (
            (World(5, 9, 7, base.things), (-1,)), (World(4, 10, 7, base.things), (-1,)), (World(4, 9, 8, base.things), (-1,)),
            (World(4, 9, 7, base.things[:1]), (5,)), (World(4, 9, 7, base.things[1:]), (2,)), (World(4, 9, 7, ()), (2, 5)),
            (World(4, 9, 7, ((2, "ant", (1, 3)), base.things[1])), (2,)), (World(4, 9, 7, ((2, "bee", (1, 2)), base.things[1])), (2,)),
            (World(4, 9, 7, ((2, "ant", (1,)), base.things[1])), (2,)), (World(4, 9, 7, ((3, "ant", (1, 2)), base.things[1])), (2, 3)),
            (World(0, 9, 7, (*base.things, (8, "ant", (0, 0)))), (-1, 8)),
        ):
            self.assertEqual((unlike_parts(base, other), unlike_parts(other, base)), (parts, parts))

    def test_refused(self):
        wrong = [(value, ("InvalidWorld",)) for value in JUNK if not isinstance(value, World)]
        check_order(self, unlike_parts, (WORLDS[0], WORLDS[1]), [wrong, wrong])


class StrayTest(unittest.TestCase):
    def papers(self, game, row, report):
        """All stray papers, and each other likely one is judged to be none."""
        found = []
        for tick, told in enumerate(report):
            due = next_world(game, report[tick - 1], row[tick - 1]) if tick else first_world(game)
            parts = naive_parts(told, due) if max(told.next_id, due.next_id) < 300 else unlike_parts(told, due)
            for part in range(-2, max(told.next_id, due.next_id) + 1):
                paper = ("step", tick, part)
                self.assertIs(is_stray_paper(game, row, report, paper), part in parts)
                found += [paper] * (part in parts)
        return found

    def check(self, game, row, report, tick):
        """The tick is where the report strays."""
        self.assertEqual(first_stray(game, row, report), tick)
        papers = self.papers(game, row, report)
        paper = stray_paper(game, row, report)
        self.assertEqual(paper is None, tick is None)
        self.assertTrue(paper is None or paper in papers)
        self.assertEqual(papers == [], tick is None)
        if tick is not None:
            due = plain(game, row[:tick])
            self.assertEqual([part for word, at, part in papers if at == tick], list(unlike_parts(report[tick], due)))
            self.assertEqual(papers[0][1], tick)

    def test_random_reports(self):
        dice = Dice(204)
        for _ in range(35):
            game = dice.some(COINS, dice.game())
            row = tuple(dice.joint(game) for _ in range(dice.random.randint(0, 6)))
            worlds = list(plain_worlds(game, row))[:dice.random.randint(1, len(row) + 1)]
            self.check(game, row, tuple(worlds), None)
            at = dice.random.randrange(len(worlds))
            worlds[at] = bent(dice, game, worlds[at])
            # What comes behind can go on from the bent world, or be as it was, or be bent again.
            how = dice.random.randrange(3)
            for tick in range(at + 1, len(worlds)):
                if how == 0:
                    worlds[tick] = next_world(game, worlds[tick - 1], row[tick - 1])
                elif how == 1 and dice.some(True, False):
                    worlds[tick] = bent(dice, game, worlds[tick])
            self.check(game, row, tuple(worlds), at)

    def test_lengths(self):
        self.check(COINS, ROW, WORLDS, None)
        self.check(COINS, ROW, WORLDS[:1], None)
        self.check(COINS, (), WORLDS[:1], None)
        self.check(COINS, (), WORLDS[1:2], 0)
        self.check(COINS, STILL, WORLDS, 1)
        self.check(COINS, ROW, (WORLDS[0], WORLDS[2], WORLDS[2], WORLDS[3]), 1)

    def test_a_bent_world_can_become_plain_again(self):
        other = changed(WORLDS[1], 0, 2, 7)
        report = (WORLDS[0], other, next_world(COINS, other, ROW[1]), WORLDS[3])
        self.assertEqual((report[3], first_stray(COINS, ROW, report)), (WORLDS[3], 1))
        self.check(COINS, ROW, report, 1)

    def test_no_papers(self):
        report = (WORLDS[0], changed(WORLDS[1], 1, 0, 5), WORLDS[2], WORLDS[3])
        self.assertEqual(is_stray_paper(COINS, ROW, report, ("step", 1, 1)), True)
        for value in [*JUNK, ("step", 1, 0), ("step", 0, 1), ("step", 3, 1), ("step", 4, 1), ("step", -1, 1), ("step", True, 1), ("step", 1, True),
                      ("step", 1), ("step", 1, 1, 1), ["step", 1, 1], ("Step", 1, 1), ("print", 1, 1), (1, 1, 1), ("step", "1", 1),
                      ("step", 1, "1"), ("step", 1, None), ("step", None, 1), ("step", 1, (1,)), ("step", 1, 10 ** 60), ("step", 1, -1)]:
            self.assertIs(is_stray_paper(COINS, ROW, report, value), False, value)
        self.assertIs(is_stray_paper(COINS, ROW, WORLDS, ("step", 1, 1)), False)

    def test_ticks_below_0(self):
        # Counted from the end there would be an unlike part.
        report = (WORLDS[0], WORLDS[1], WORLDS[2], changed(WORLDS[3], 1, 0, 5))
        self.assertEqual([is_stray_paper(COINS, ROW + STILL[:1], report, ("step", tick, part)) for tick in (3, -1, -2) for part in (-1, 0, 1, 2)],
                         [False, False, True] + [False] * 9)

    def test_ids_of_many_digits(self):
        game = Game(COINS.kinds, (("for", "coin", (("make", "coin", ()),)),), ((("coin", (0, 0, 0, 0)),)), arena=(9, 9))
        far = World(0, 10 ** 60 - 1, 0, ((10 ** 60 - 2, "coin", (0, 0, 0, 0)),))
        once = next_world(game, far, (0, 0))
        twice = next_world(game, once, (0, 0))
        self.assertEqual(twice.next_id, 10 ** 60 + 2)
        report = (far, once, dropped(twice, 10 ** 60))
        self.assertIs(is_stray_paper(game, ((0, 0),) * 2, report, ("step", 2, 10 ** 60)), True)

    def test_refused(self):
        stray = lambda *args: is_stray_paper(*args, ("step", 0, 0))
        for function in (first_stray, stray_paper, stray):
            check_order(self, function, (COINS, ROW, WORLDS), [GAMES, ROWS, REPORTS])


class PrintPaperTest(unittest.TestCase):
    def test_papers(self):
        for tick in range(4):
            due = world_print(WORLDS[tick])
            for told in (0, 999999936, due - 1, due + 1):
                self.assertIs(is_print_paper(COINS, ROW, ("print", tick, told, due)), True)
            self.assertIs(is_print_paper(COINS, ROW, ("print", tick, due, due)), False)
            for told, wrong in ((0, due + 1), (due, 0), (due, due + 1), (-1, due), (999999937, due), (True, due), (None, due), ("0", due),
                                (0, True), (0, None), (0, str(due)), (0, -1), (10 ** 60, due)):
                self.assertIs(is_print_paper(COINS, ROW, ("print", tick, told, wrong)), False, (told, wrong))

    def test_no_papers(self):
        due = world_print(WORLDS[1])
        self.assertIs(is_print_paper(COINS, ROW, ("print", 1, 5, due)), True)
        for value in [*JUNK, ("print", 0, 5, due), ("print", 4, 5, due), ("print", -1, 5, due), ("print", True, 5, due), ("print", None, 5, due),
                      ("print", "1", 5, due), ("print", (1,), 5, due), ("step", 1, 5, due), ("print", 1, 5), ("print", 1, 5, due, 0),
                      ["print", 1, 5, due], (1, 1, 5, due)]:
            self.assertIs(is_print_paper(COINS, ROW, value), False, value)
        self.assertIs(is_print_paper(COINS, (), ("print", 1, 5, due)), False)
        self.assertEqual([is_print_paper(COINS, ROW, ("print", tick, 5, world_print(WORLDS[2]))) for tick in (2, -1)], [True, False])
        self.assertIs(is_print_paper(COINS, (), ("print", 0, 5, world_print(WORLDS[0]))), True)

    def test_true_is_not_one(self):
        # A print of 1 is rare; a game whose first world has it shows that True is not taken for it.
        self.assertIs(is_print_paper(COINS, (), ("print", False, 5, world_print(WORLDS[0]))), False)
        self.assertIs(is_print_paper(COINS, (), ("print", 0, False, world_print(WORLDS[0]))), False)

    def test_refused(self):
        paper = lambda *args: is_print_paper(*args, ("print", 0, 5, 6))
        check_order(self, paper, (COINS, ROW), [GAMES, ROWS])


class HalvedTest(unittest.TestCase):
    def test_what_halving_finds(self):
        dice = Dice(205)
        for _ in range(400):
            many = dice.some(1, 1, 2, 2, 3, 4, 5, 8, 9, 17, 33, 60)
            told = tuple(dice.some(0, 1, 999999936) for _ in range(many))
            due = tuple(dice.some(number, number, 0, 1) for number in told)
            found, looked = halved(told, due)
            last = many - 1
            self.assertEqual(looked[0], 0)
            k = next(k for k in range(9) if 2 ** k >= last)
            self.assertLessEqual(len(looked), 2 + k)
            self.assertEqual(len(set(looked)), len(looked))
            if told[0] != due[0]:
                self.assertEqual((found, looked), (0, (0,)))
                continue
            self.assertEqual(looked[:2], (0, last) if last else (0,))
            if told[last] == due[last]:
                self.assertEqual((found, len(looked)), (None, min(many, 2)))
                continue
            self.assertEqual((told[found] == due[found], told[found - 1] == due[found - 1]), (False, True))
            self.assertTrue({found, found - 1} <= set(looked))
            low, high = 0, last
            for tick in looked[2:]:
                self.assertEqual(tick, (low + high) // 2)
                low, high = (tick, high) if told[tick] == due[tick] else (low, tick)
            self.assertEqual((low, high), (found - 1, found))

    def test_one_and_two(self):
        for told, due, found in (((5,), (5,), (None, (0,))), ((5,), (6,), (0, (0,))), ((5, 5), (5, 5), (None, (0, 1))),
                                 ((5, 5), (5, 6), (1, (0, 1))), ((5, 5), (6, 5), (0, (0,))), ((5, 5, 5), (5, 5, 6), (2, (0, 2, 1))),
                                 ((5, 5, 5), (5, 6, 6), (1, (0, 2, 1))), ((0, 999999936), (0, 0), (1, (0, 1)))):
            self.assertEqual(halved(told, due), found)

    def test_the_seat_strays_there_or_earlier(self):
        dice = Dice(206)
        for _ in range(40):
            row = tuple(dice.joint(COINS) for _ in range(dice.random.randint(1, 9)))
            due = list(plain_worlds(COINS, row))
            at = dice.random.randrange(len(due))
            worlds = due[:at] + [bent(dice, COINS, due[at])]
            for tick in range(at + 1, len(due)):
                worlds.append(dice.some(next_world(COINS, worlds[-1], row[tick - 1]), due[tick], bent(dice, COINS, due[tick])))
            found, _ = halved(tuple(map(world_print, worlds)), tuple(map(world_print, due)))
            if found is not None:
                self.assertLessEqual(first_stray(COINS, row, tuple(worlds)), found)

    def test_refused(self):
        check_order(self, halved, ((5, 6), (5, 7)), [PRINTS, PRINTS])
        for told, due in (((5,), (5, 6)), ((5, 6), (5,)), ((5, 6), (4,))):
            self.assertEqual(error_of(halved, told, due), ("InvalidOperation",))


if __name__ == "__main__":
    unittest.main()
