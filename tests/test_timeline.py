"""Stage 11: timelines."""

import unittest

from helper import COINS, JUNK, PAIR, Dice, check_order, error_of, naive_used, number_error, whole_choices
from settledplay.play.keys import Setup, first_change, heard
from settledplay.play.step import next_world, plain, step
from settledplay.play.timeline import Timeline, viewed
from settledplay.rules.forms import Game
from settledplay.world.worlds import World, first_world, made, world_text

FOUR = Game(COINS.kinds, COINS.entries, COINS.start, arena=(12, 6), seats=4)
SETUPS = [(value, ("InvalidSetup",)) for value in JUNK if not isinstance(value, Setup)]
SEATS = [(value, number_error(value)) for value in (-1, 2, True, False, "0", 10 ** 60, (0,))]
WORLDS = [(value, ("InvalidWorld",)) for value in JUNK if value is not None and not isinstance(value, World)]
WORLDS += [(World(0, 9, 0, ((1, "elf", (1,)),)), ("InvalidWorld",)), (World(0, 9, 0, ((1, "coin", (1, 2)),)), ("InvalidWorld",))]
WRONG_JOINTS = [*JUNK, (0,), (0, 0, 0), [0, 0], (0, 128), (0, -2), (True, 0), (0, None)]
ROWS = [(value, ("InvalidRow",)) for value in [value for value in JUNK if value != ()] + [((0, 0), value) for value in WRONG_JOINTS]]
FIRST = first_world(COINS)


class Model:
    """A timeline as it is told: all worlds are made anew each time, by plain steps."""

    def __init__(self, setup, seat, world):
        self.setup, self.seat, self.base, self.memo = setup, seat, world.tick, {}
        self.row, self.own, self.shown, self.reruns, self.start = (), {}, world.tick, 0, world
        self.worlds = self.all_worlds()

    @property
    def settled(self):
        return self.base + len(self.row)

    def used(self, tick):
        if tick < self.settled:
            return heard(self.row[tick - self.base])
        many = len(self.row)
        return naive_used(self.setup, self.row, self.seat, {many: self.own.get(tick, 0)}, many)

    def next(self, world, words):
        """The next world; each step is made once, as the same ones are asked for again and again."""
        key = (world_text(world), words)
        if key not in self.memo:
            self.memo[key] = step(self.setup.game, world, words)
        return self.memo[key]

    def all_worlds(self):
        """The worlds of all ticks from the base on."""
        worlds = {self.base: self.start}
        for tick in range(self.base, max(self.settled, self.shown)):
            worlds[tick + 1] = self.next(worlds[tick], self.used(tick))[0]
        return worlds

    def change(self, row, own, shown):
        """Another row, other own words, another shown tick; the ticks of the steps that this touches."""
        ticks = range(self.settled, self.shown)
        former, worlds = {tick: self.used(tick) for tick in ticks}, self.worlds
        self.row, self.own, self.shown = row, own, shown
        self.worlds = self.all_worlds()
        touched = [tick for tick in ticks if self.used(tick) != former[tick] or self.worlds[tick] != worlds[tick]]
        self.reruns += len(touched)
        return touched

    def press(self, word):
        column = [self.seat in self.setup.starters, *[joint[self.seat] != -1 for joint in self.row]]
        last = self.shown + self.setup.delay
        if not any(column):
            last = self.settled + self.setup.window + self.setup.delay - 1
        own = dict(self.own)
        for tick in range(self.settled, last + 1):
            own.setdefault(tick, word)
        return self.change(self.row, own, self.shown)

    def tell(self, first, words):
        row = self.row + words[self.settled - first:]
        settled = self.base + len(row)
        own = {tick: word for tick, word in self.own.items() if tick >= settled}
        return self.change(row, own, max(self.shown, settled - self.setup.delay))


class Play:
    """A timeline and its model side by side, and a row of which the stretches are."""

    def __init__(self, test, dice, game=None, base=None):
        self.test, self.dice = test, dice
        self.game = game or dice.some(COINS, FOUR, dice.game())
        self.setup = dice.setup(self.game)
        self.seat = dice.some(None, *range(self.game.seats), *range(self.game.seats))
        self.base = dice.some(0, 0, 1, 3, 7) if base is None else base
        self.whole = dice.match_row(self.setup, self.base + 40)
        world = plain(self.game, self.whole[:self.base])
        self.line = Timeline(self.setup, self.seat, world if self.base else dice.some(None, world))
        self.model = Model(self.setup, self.seat, world)

    def check(self):
        """All that the timeline tells is what the model tells."""
        test, line, model = self.test, self.line, self.model
        test.assertEqual((line.setup, line.seat, line.base), (self.setup, self.seat, self.base))
        test.assertEqual((line.row, line.settled, line.shown, line.reruns), (model.row, model.settled, model.shown, model.reruns))
        test.assertEqual(list(line.own.items()), sorted(model.own.items()))
        low, high = sorted((line.settled, line.shown))
        for tick in range(max(0, line.base - 2), high + 3):
            test.assertEqual(line.used(tick) if tick >= line.base else error_of(line.used, tick), model.used(tick) if tick >= line.base else number_error(tick))
            if low <= tick <= high:
                test.assertEqual(line.world_at(tick), model.worlds[tick])
            else:
                test.assertEqual(error_of(line.world_at, tick), number_error(tick))
            if low <= tick < high:
                test.assertEqual(line.effects_at(tick), model.next(model.worlds[tick], model.used(tick))[2])
            else:
                test.assertEqual(error_of(line.effects_at, tick), number_error(tick))
        test.assertEqual((line.settled_world, line.shown_world), (model.worlds[line.settled], model.worlds[line.shown]))
        test.assertTrue(max(line.base, line.settled - self.setup.delay) <= line.shown <= line.settled + self.setup.window)
        name = "looker-on" if self.seat is None else f"seat {self.seat}"
        test.assertEqual(str(line), f"{name}: {line.settled} settled, {line.shown} shown")

    def touch(self, former, touched, row, own):
        """What is touched begins at the first change, and at most W steps are."""
        test = self.test
        test.assertLessEqual(len(touched), self.setup.window)
        if self.base == 0 and own == former.own:
            change = first_change(self.setup, former.row, row, self.seat, own, former.shown)
            test.assertEqual(touched[:1], [] if change is None or change < former.settled else [change])

    def act(self):
        """Something is done with the timeline."""
        line = self.line
        word = self.dice.random.randint(0, 3)
        what = self.dice.some("press", "press", "advance", "advance", "tell")
        if what == "press" and self.seat is not None:
            self.line, touched = line.pressed(word), self.model.press(word)
            self.touch(line, touched, line.row, self.line.own)
        elif what == "advance":
            if line.shown == line.settled + self.setup.window:
                self.test.assertEqual(error_of(line.advanced), ("Refused", repr(("full",))))
            else:
                self.line = line.advanced()
                self.model.change(line.row, self.model.own, line.shown + 1)
        elif what == "tell":
            first = max(0, line.settled + self.dice.some(-20, -3, -1, 0, 0, 0, 1))
            words = self.whole[first:first + self.dice.some(0, 1, 1, 2, 3, 6)]
            if first > line.settled:
                self.test.assertEqual(error_of(line.told, first, words), ("Refused", repr(("hole", line.settled))))
            else:
                self.line = line.told(first, words)
                self.touch(line, self.model.tell(first, words), self.line.row, line.own)


class TimelineTest(unittest.TestCase):
    def test_random_plays(self):
        dice = Dice(131)
        reruns = 0
        for _ in range(60):
            play = Play(self, dice)
            play.check()
            for _ in range(25):
                play.act()
                play.check()
            reruns += play.line.reruns
            self.assertEqual(play.line.settled_world, plain(play.game, play.whole[:play.line.settled]))
        self.assertGreater(reruns, 200)

    def test_what_is_shown(self):
        dice = Dice(132)
        for _ in range(40):
            play = Play(self, dice, base=0)
            for _ in range(20):
                play.act()
            line = play.line
            self.assertEqual(viewed(play.setup, play.seat, line.row, line.own, line.shown), line.shown_world)
            self.assertEqual(viewed(play.setup, play.seat, line.row, {}, line.settled), line.settled_world)

    def test_whichever_way(self):
        dice = Dice(133)
        unlike = 0
        for _ in range(60):
            play = Play(self, dice, dice.some(COINS, FOUR))
            for _ in range(20):
                play.act()
            line = play.line
            # The row is told at once, in pieces or twice, and the same ticks are shown.
            other = Timeline(play.setup, play.seat, line.start if play.base else None)
            told = 0
            while told < len(line.row):
                end = dice.random.randint(told, len(line.row))
                for _ in range(dice.some(1, 2)):
                    other = other.told(play.base + dice.random.randint(0, told), ()).told(play.base + told, line.row[told:end])
                told = end
            whole = Timeline(play.setup, play.seat, line.start).told(play.base, line.row)
            self.assertEqual((whole, whole.settled_world), (other, other.settled_world))
            self.assertEqual(other.settled_world, line.settled_world)
            if other.shown <= line.shown and line.own == {}:
                while other.shown < line.shown:
                    other = other.advanced()
                self.assertTrue(other == line)
                self.assertEqual(other.shown_world, line.shown_world)
                unlike += other.reruns != line.reruns
        self.assertGreater(unlike, 0)

    def test_the_settled_world_hangs_on_no_own_word_and_no_guess(self):
        row = ((2, 1), (2, 65), (0, 1), (2, -1))
        lines = [Timeline(PAIR, seat).told(0, row) for seat in (0, 1, None)]
        lines += [Timeline(PAIR, 0).pressed(3).advanced().pressed(1).advanced().told(0, row), Timeline(PAIR, 1).pressed(9).told(0, row[:1]).told(0, row)]
        for line in lines:
            self.assertEqual(line.settled_world, plain(COINS, row))

    def test_presses(self):
        two = Timeline(PAIR, 1)
        self.assertEqual([two.pressed(5).own, two.pressed(5).pressed(6).own, two.advanced().pressed(5).own], [{0: 5, 1: 5}, {0: 5, 1: 5}, {0: 5, 1: 5, 2: 5}])
        self.assertEqual(two.pressed(5).advanced().pressed(63).own, {0: 5, 1: 5, 2: 63})
        # A seat that is ahead of its stay presses as far as its words can be asked for; one that is out as others do.
        late = Setup(COINS, window=3, delay=1, starters=(0,))
        ahead = Timeline(late, 1).told(0, ((0, -1),))
        self.assertEqual(ahead.pressed(5).own, {1: 5, 2: 5, 3: 5, 4: 5})
        self.assertEqual(Timeline(late, 1).pressed(7).advanced().pressed(8).own, {0: 7, 1: 7, 2: 7, 3: 7})
        came = ahead.pressed(5).told(1, ((0, 5),))
        self.assertEqual((came.own, came.used(2), came.pressed(6).own), ({2: 5, 3: 5, 4: 5}, (0, 5), {2: 5, 3: 5, 4: 5}))
        out = Timeline(PAIR, 1).told(0, ((0, 3), (0, -1)))
        self.assertEqual((out.shown, out.pressed(5).own, out.pressed(5).used(2)), (1, {2: 5}, (0, -1)))
        self.assertEqual(out.advanced().advanced().pressed(5).own, {2: 5, 3: 5, 4: 5})
        # A full window: the words go d ticks beyond it.
        full = Timeline(PAIR, 0).advanced().advanced().advanced()
        self.assertEqual(full.pressed(1).own, {0: 1, 1: 1, 2: 1, 3: 1, 4: 1})
        self.assertEqual((full.reruns, full.pressed(1).reruns, full.pressed(0).reruns), (0, 3, 0))
        none = Setup(COINS, window=1, delay=0, starters=(0,))
        self.assertEqual((Timeline(none, 0).pressed(4).own, Timeline(none, 1).pressed(4).own), ({0: 4}, {0: 4}))

    def test_the_shown_tick(self):
        row = tuple((2, 1) for _ in range(20))
        for delay in (0, 1, 2, 8):
            line = Timeline(Setup(COINS, window=12, delay=delay), 0)
            for many in range(1, 13):
                self.assertEqual(line.told(0, row[:many]).shown, max(0, many - delay))
            ahead = line.advanced().advanced().advanced()
            self.assertEqual([ahead.told(0, row[:many]).shown for many in (1, 3, 3 + delay, 4 + delay, 20)], [3, 3, 3, 4, 20 - delay])
            behind = line.told(0, row[:9])
            self.assertEqual(behind.shown_world, plain(COINS, row[:9 - delay]))
            for many in range(1, delay + 1):
                behind = behind.advanced()
                self.assertEqual((behind.shown, behind.shown_world), (9 - delay + many, plain(COINS, row[:9 - delay + many])))
        full = Timeline(Setup(COINS, window=1, delay=0), 0).advanced()
        self.assertEqual(error_of(full.advanced), ("Refused", repr(("full",))))
        self.assertIsNone(error_of(full.told(0, row[:1]).advanced))

    def test_effects_as_they_ran_last(self):
        # The hero of the seat 0 grabs the coin by its own words, until those of the seat 1 are known.
        line = Timeline(PAIR, 0).pressed(2).advanced().pressed(2).advanced().pressed(2).advanced()
        self.assertEqual((line.effects_at(2), line.effects_at(1)), (((1, 0),), ()))
        then = line.told(0, ((0, 1), (0, 1)))
        self.assertEqual((then.effects_at(2), then.reruns), (((1, 1),), 3))
        self.assertEqual(step(COINS, plain(COINS, ((0, 1), (0, 1))), (2, 1))[2], ((1, 1),))

    def test_what_is_touched(self):
        line = Timeline(PAIR, 0).advanced().advanced().advanced()
        # The word that was guessed comes: nothing is run again; a word that does nothing: the one step alone.
        self.assertEqual([line.told(0, (joint,)).reruns for joint in ((0, 0), (0, 64), (64, 64), (0, 4), (0, 1), (0, -1))], [0, 0, 0, 3, 3, 3])
        fixed = Setup(COINS, window=3, delay=1, guesses=(0,) * 64)
        line = Timeline(fixed, 0).advanced().advanced().advanced()
        self.assertEqual([line.told(0, (joint,)).reruns for joint in ((0, 0), (0, 4), (0, 1))], [0, 1, 3])
        # A press below the shown tick is a change, too.
        self.assertEqual((line.pressed(0).reruns, line.pressed(4).reruns, line.pressed(2).reruns), (0, 3, 3))
        self.assertEqual(line.told(0, ((0, 1),)).told(0, ((0, 1),)).reruns, 3)
        self.assertEqual(line.told(0, ((0, 1),)).told(1, ((0, 1), (0, 0))).reruns, 5)

    def test_worlds_that_come_back_are_not_touched_further(self):
        # A key that has no effect beyond its tick: the world behind it is as it was.
        kinds = (("dot", (("seat", 1), ("n", 0)), None),)
        game = Game(kinds, (("for", "dot", (("when", ("less", 2, ("tick",)), (("set", "n", 0),), (("set", "n", ("key", 0)),)),)),), (("dot", (1, 0)),), arena=(1, 1))
        line = Timeline(Setup(game, window=8, delay=0, guesses=(0,) * 64), 0)
        for _ in range(6):
            line = line.advanced()
        # The step of the tick 0 uses another word, that of 1 has another world; behind it all worlds are as they were.
        self.assertEqual(line.told(0, ((0, 1),)).reruns, 2)
        self.assertEqual(line.told(0, ((0, 1), (0, 0), (0, 0), (0, 0), (0, 1))).reruns, 2 + 1)
        self.assertEqual(line.told(0, ((0, 0), (0, 0), (0, 0), (0, 1))).reruns, 1)

    def test_a_timeline_that_begins_later(self):
        dice = Dice(134)
        for _ in range(30):
            setup = dice.setup(COINS)
            whole = dice.match_row(setup, 12)
            base = dice.random.randint(1, 8)
            for first in (0, base - 1, base):
                line = Timeline(setup, 1, plain(COINS, whole[:base]))
                self.assertEqual((line.base, line.settled, line.shown, line.row, line.own), (base, base, base, (), {}))
                # What lies ahead of the base is left out, whatever it says.
                words = tuple((5, 5) for _ in range(base - first)) + whole[base:]
                for many in range(1, len(words) + 1):
                    told = line.told(first, words[:many])
                    self.assertEqual((told.row, told.settled), (whole[base:first + many], max(base, first + many)))
                    self.assertEqual(told.settled_world, plain(COINS, whole[:told.settled]))
                for at in (base + 1, base + 2, 10 ** 59):
                    self.assertEqual(error_of(line.told, at, ()), ("Refused", repr(("hole", base))))
                for tick in (0, base - 1):
                    self.assertEqual(error_of(line.used, tick), number_error(tick))
        late = Timeline(Setup(COINS, starters=(0,)), 1, plain(COINS, ((0, -1),)))
        self.assertEqual((late.used(1), late.told(1, ((3, 5),)).used(2), late.told(1, ((3, 5),)).pressed(2).used(2)), ((0, -1), (3, 0), (3, 2)))

    def test_a_world_of_no_row(self):
        world = made(FIRST, "coin", (1, 1, 0, 0))[0]
        far = World(10 ** 60 - 1, 10 ** 60 - 1, 0, ())
        for start in (world, far):
            line = Timeline(PAIR, 0, start).pressed(2).advanced()
            self.assertEqual(line.shown_world, next_world(COINS, start, (2, 0)))
            told = line.told(start.tick, ((0, 1),)).advanced()
            self.assertEqual((told.settled_world, told.reruns), (next_world(COINS, start, (0, 1)), 1))
            self.assertEqual(told.shown_world, next_world(COINS, told.settled_world, (2, 1)))

    def test_unlike_stretches(self):
        line = Timeline(PAIR, 0, plain(COINS, ((0, 0), (1, 1)))).told(2, ((3, 3), (4, 68), (5, 5)))
        for first, words, tick in ((2, ((3, 2),), 2), (0, ((9, 9), (9, 9), (3, 3), (5, 68)), 3), (3, ((4, 4),), 3), (4, ((5, 4), (7, 7)), 4), (1, ((0, 0), (3, 3), (4, 68), (6, 5)), 4)):
            self.assertEqual(error_of(line.told, first, words), ("Refused", repr(("unlike", tick))))
        for first, words in ((0, ((9, 9), (9, 9), (3, 3))), (0, ()), (5, ()), (2, ((3, 3),)), (0, ((9, 9),)), (4, ((5, 5),))):
            self.assertEqual(line.told(first, words), line)
        self.assertEqual(line.told(4, ((5, 5), (6, 6))).row, ((3, 3), (4, 68), (5, 5), (6, 6)))

    def test_equal_timelines(self):
        base = Timeline(PAIR, 0)
        lines = [base, Timeline(PAIR, 1), Timeline(PAIR, None), Timeline(Setup(COINS), 0), base.pressed(0), base.pressed(1), base.advanced(), base.told(0, ((0, 0),)),
                 base.told(0, ((0, 64),)), base.told(0, ((0, 0),)).advanced(), Timeline(PAIR, 0, made(FIRST, "coin", (1, 1, 0, 0))[0]),
                 Timeline(PAIR, 0, World(0, 3, 1, FIRST.things))]
        for i, one in enumerate(lines):
            for k, other in enumerate(lines):
                self.assertEqual((one == other, one != other), (i == k, i != k), (i, k))
            for value in JUNK:
                self.assertIs(one == value, i == 0 and isinstance(value, Timeline))
        self.assertTrue(base == Timeline(PAIR, 0, FIRST))
        # What was run again has no part in it.
        one, other = base.advanced().pressed(2), base.pressed(2).advanced()
        self.assertEqual((one.own, other.own), ({0: 2, 1: 2, 2: 2}, {0: 2, 1: 2}))
        one, other = base.advanced().told(0, ((0, 1),)), base.told(0, ((0, 1),)).advanced()
        self.assertEqual((one == other, one.reruns, other.reruns), (True, 1, 0))

    def test_nothing_changes(self):
        line = Timeline(PAIR, 0).pressed(2).advanced()
        line.own[7] = 9
        line.pressed(3), line.advanced(), line.told(0, ((0, 1),))
        self.assertEqual((line.own, str(line), line.row, line.reruns), ({0: 2, 1: 2}, "seat 0: 0 settled, 1 shown", (), 0))
        with self.assertRaises(TypeError):
            iter(line)

    def test_refused(self):
        check_order(self, Timeline, (PAIR, 0, FIRST), (SETUPS, SEATS, WORLDS))
        check_order(self, Timeline, (PAIR, None, None), (SETUPS, SEATS, WORLDS))
        line = Timeline(PAIR, 0).advanced()
        self.assertEqual([error_of(Timeline(Setup(FOUR), 0).told, 0, (joint,)) for joint in ((0, 0), (0, 0, 0, 0))], [("InvalidRow",), None])
        check_order(self, line.told, (0, ((0, -1),)), (whole_choices(), ROWS))
        self.assertEqual(error_of(line.told, 5, None), ("InvalidRow",))
        self.assertIsNone(error_of(line.told, 0, ()))
        for value in (-1, True, False, None, "0", 10 ** 60, (1,), [], {}, 64 - 10 ** 9):
            for call in (line.used, line.world_at, line.effects_at):
                self.assertEqual(error_of(call, value), number_error(value))
        for value in [*JUNK, 64, -1, 127, True]:
            self.assertEqual(error_of(line.pressed, value), ("InvalidWord",))
            self.assertEqual(error_of(Timeline(PAIR, None).pressed, value), ("InvalidWord",))
        self.assertEqual([error_of(Timeline(PAIR, None).pressed, word) for word in (0, 63)], [("InvalidOperation",)] * 2)
        self.assertEqual([error_of(line.pressed, word) for word in (0, 63)], [None, None])
        self.assertIsNone(error_of(line.used, 10 ** 60 - 1))

    def test_names(self):
        self.assertEqual(str(Timeline(PAIR, None)), "looker-on: 0 settled, 0 shown")
        self.assertEqual(str(Timeline(PAIR, 1).told(0, ((0, 0),) * 3).advanced().advanced().advanced()), "seat 1: 3 settled, 5 shown")


class ViewedTest(unittest.TestCase):
    def test_viewed(self):
        dice = Dice(135)
        for _ in range(60):
            game = dice.some(COINS, FOUR, dice.game())
            setup = dice.setup(game)
            row, own = dice.match_row(setup, dice.random.randint(0, 5)), dice.own_words(0, 9)
            seat = dice.some(None, *range(setup.seats))
            words = tuple(naive_used(setup, row, seat, own, tick) for tick in range(8))
            for shown in range(9):
                self.assertEqual(viewed(setup, seat, row, own, shown), plain(game, words[:shown]))

    def test_bounds(self):
        self.assertEqual(viewed(PAIR, None, (), {}, 400).tick, 400)
        self.assertEqual(viewed(PAIR, 0, ((0, 0),) * 5, {}, 0), FIRST)
        for shown in (-1, 401, 10 ** 9, True, None, "1", 10 ** 60):
            self.assertEqual(error_of(viewed, PAIR, 0, (), {}, shown), number_error(shown))

    def test_refused(self):
        owns = [(value, ("InvalidOperation",)) for value in [*[value for value in JUNK if value != {}], {-1: 0}, {0: 64}, {True: 0}, {0: True}]]
        rows = [(value, ("InvalidRow",)) for value, _ in ROWS] + [(((0, -1), (0, 0)), ("InvalidRow",)), (((-1, 0),), ("InvalidRow",))]
        numbers = [(value, number_error(value)) for value in (-1, 401, True, None)]
        for seat in (0, None):
            check_order(self, viewed, (PAIR, seat, ((0, 0),), {1: 2}, 3), (SETUPS, SEATS, rows, owns, numbers))

    def test_what_is_not_true(self):
        # A press and a stretch can not change places; not all steps behind a touched one are touched (above); an own
        # word of a seat that is not in is not used.
        one = Timeline(PAIR, 0).pressed(2).told(0, ((0, 1), (0, 1)))
        other = Timeline(PAIR, 0).told(0, ((0, 1), (0, 1))).pressed(2)
        self.assertNotEqual(one.own, other.own)
        out = Timeline(PAIR, 1).told(0, ((0, -1),)).pressed(3)
        self.assertEqual((out.own[1], out.used(1)), (3, (0, -1)))


if __name__ == "__main__":
    unittest.main()
