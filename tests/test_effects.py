"""Stage 18: effects, told once."""

import unittest

from helper import COINS, JUNK, PAIR, Dice, check_order, error_of, number_error, refused_all, whole_choices
from settledplay.match.effects import Ear, changed, effect_change, effects_of, is_lot, shown_effects, tellings
from settledplay.play.keys import Setup
from settledplay.play.step import plain, plain_worlds, step
from settledplay.play.timeline import Timeline
from settledplay.rules.forms import Game

FOUR = Game(COINS.kinds, COINS.entries, COINS.start, arena=(12, 6), seats=4)
# Each hero tells its seat with the code 7 and its place with the code 99 at each tick, so that there is much to tell.
LOUD = Game(COINS.kinds, (("for", "hero", (("set", "dx", ("minus", ("key", 1), ("key", 0))), ("tell", 7, ("own", "seat")), ("tell", 99, ("own", "x")))),
                          *COINS.entries[1:]), COINS.start, arena=(12, 6))
GAMES = [(value, ("InvalidGame",)) for value in JUNK if not isinstance(value, Game)]
ROWS = [(value, ("InvalidRow",)) for value in JUNK if value != ()]
ROWS += [(value, ("InvalidRow",)) for value in (((0,),), ((0, 128),), ((0, 0, 0),), ((True, 0),), [(0, 0)], ((0, 0), None))]
LOT = ((0, 0, 1, 5), (0, 2, 99, -1000000000), (3, 0, 0, 1000000000), (3, 1, 1, 5))
NO_LOTS = [value for value in JUNK if value != ()] + [
    ((0, 1, 1, 5), (0, 0, 1, 5)), ((0, 0, 1, 5), (0, 0, 2, 5)), ((0, 0, 1, 5), (0, 0, 1, 5)), ((1, 0, 1, 5), (0, 9, 1, 5)), ((-1, 0, 1, 5),), ((0, -1, 1, 5),),
    ((0, 0, -1, 5),), ((0, 0, 100, 5),), ((0, 0, 1, 1000000001),), ((0, 0, 1, -1000000001),), ((True, 0, 1, 5),), ((0, True, 1, 5),), ((0, 0, True, 5),),
    ((0, 0, 1, True),), ((0, 0, 1),), ((0, 0, 1, 5, 6),), ([0, 0, 1, 5],), [(0, 0, 1, 5)], ((0, 0, 1, 5), None), ((0, 0, 1, "5"),), ((0, 0, None, 5),),
    ((10 ** 60, 0, 1, 5),), ("abcd",)]
LOTS = [(value, ("InvalidOperation",)) for value in NO_LOTS]


def naive_effects(game, row):
    """The effects, step by step."""
    found = []
    for tick, (world, joint) in enumerate(zip(plain_worlds(game, row), row)):
        found += [(tick, place, *pair) for place, pair in enumerate(step(game, world, joint)[2])]
    return tuple(found)


def games(dice):
    """Games that tell something, most of them."""
    return dice.some(COINS, LOUD, dice.game(), dice.game())


def some_lot(dice):
    """A lot of some effects."""
    numbers = sorted({(dice.random.randint(0, 3), dice.random.randint(0, 2)) for _ in range(dice.random.randint(0, 5))})
    return tuple((*number, dice.some(1, 2), dice.some(0, 1)) for number in numbers)


class EffectsTest(unittest.TestCase):
    def test_effects(self):
        dice = Dice(181)
        many = 0
        for _ in range(60):
            game = games(dice)
            row = tuple(dice.joint(game) for _ in range(dice.random.randint(0, 6)))
            lot = effects_of(game, row)
            self.assertEqual(lot, naive_effects(game, row))
            self.assertIs(is_lot(lot), True)
            # Those of a beginning of a row are a beginning of those of the row.
            for length in range(len(row)):
                some = effects_of(game, row[:length])
                self.assertEqual(some, lot[:len(some)])
                self.assertTrue(all(effect[0] >= length for effect in lot[len(some):]))
            many += len(lot)
        self.assertGreater(many, 100)
        self.assertEqual(effects_of(LOUD, ((2, 1),)), ((0, 0, 7, 0), (0, 1, 99, 2), (0, 2, 7, 1), (0, 3, 99, 8)))

    def test_tellings(self):
        dice = Dice(182)
        for _ in range(40):
            game = games(dice)
            row = tuple(dice.joint(game) for _ in range(dice.random.randint(0, 6)))
            due = [(tick, step(game, world, joint)[2]) for tick, (world, joint) in enumerate(zip(plain_worlds(game, row), row))]
            self.assertEqual(list(tellings(game, row)), due)
            for first in range(len(row) + 1):
                self.assertEqual(list(tellings(game, row, first=first)), due[first:])

    def test_refused(self):
        check_order(self, effects_of, (COINS, ((0, 0),)), [GAMES, ROWS])
        firsts = [(value, number_error(value)) for value in (-1, 2, True, False, None, "0", 10 ** 60, (0,), [1])]
        all_of = lambda game, row, *, first: list(tellings(game, row, first=first))
        check_order(self, all_of, (COINS, ((0, 0),), 1), [GAMES, ROWS, firsts], ("first",))
        self.assertEqual(error_of(all_of, COINS, (), first=1), number_error(1))
        self.assertIsNone(error_of(tellings, None, None, first=None))


class ShownTest(unittest.TestCase):
    def shown(self, line):
        """The effects of the shown steps, from the base on."""
        words = tuple(line.used(tick) for tick in range(line.base, line.shown))
        found, world = [], line.start
        for tick, joint in enumerate(words, line.base):
            world, _, pairs = step(line.setup.game, world, joint)
            found += [(tick, place, *pair) for place, pair in enumerate(pairs)]
        return tuple(found)

    def test_however_a_timeline_goes_on(self):
        dice = Dice(183)
        backs = 0
        for _ in range(50):
            setup = dice.small_setup(dice.some(COINS, LOUD, FOUR, dice.game()))
            row = dice.match_row(setup, 10)
            base = dice.some(0, 0, 3)
            seat = dice.some(None, *range(setup.seats))
            line = Timeline(setup, seat, plain(setup.game, row[:base]))
            first = lot = shown_effects(line)
            self.assertEqual(lot, ())
            for _ in range(15):
                what = dice.random.randrange(4)
                former = line
                if what == 0 and seat is not None:
                    line = line.pressed(dice.random.randint(0, 3))
                elif what == 1 and line.settled < len(row):
                    line = line.told(line.settled, row[line.settled:line.settled + dice.random.randint(1, 3)])
                elif line.shown < line.settled + setup.window:
                    line = line.advanced()
                now = shown_effects(line)
                self.assertEqual(now, self.shown(line))
                back, told = effect_change(lot, now)
                self.assertEqual(changed(lot, back, told), now)
                first = changed(first, back, told)
                self.assertEqual(first, now)
                # No effect of a tick that was settled and shown is taken back.
                self.assertTrue(all(effect[0] >= min(former.settled, former.shown) for effect in back))
                # What is settled is shown with the effects of the row.
                settled = min(line.settled, line.shown)
                due = [effect for effect in naive_effects(setup.game, row[:settled]) if effect[0] >= base]
                self.assertEqual([effect for effect in now if effect[0] < settled], due)
                backs += len(back)
                lot = now
        self.assertGreater(backs, 30)

    def test_the_steps_that_are_kept_tell_them(self):
        line = Timeline(PAIR, 0).pressed(2).advanced().pressed(2).advanced().advanced()
        self.assertEqual(shown_effects(line), ((2, 0, 1, 0),))
        self.assertEqual([line.effects_at(tick) for tick in range(3)], [(), (), ((1, 0),)])

    def test_refused(self):
        refused_all(self, shown_effects, "InvalidOperation", [at for at, value in enumerate(JUNK) if isinstance(value, Timeline)])


class LotsTest(unittest.TestCase):
    def test_is_lot(self):
        for value in ((), LOT, LOT[:1], LOT[1:], ((10 ** 60 - 1, 10 ** 60 - 1, 0, 0),), ((0, 5, 1, 5), (1, 0, 1, 5))):
            self.assertIs(is_lot(value), True, value)
        for value in NO_LOTS:
            self.assertIs(is_lot(value), False, value)

    def test_changes(self):
        dice = Dice(184)
        for _ in range(300):
            one, other = some_lot(dice), some_lot(dice)
            back, told = effect_change(one, other)
            self.assertEqual((set(back), set(told)), (set(one) - set(other), set(other) - set(one)))
            self.assertTrue(is_lot(back) and is_lot(told))
            self.assertEqual((changed(one, back, told), changed(other, told, back)), (other, one))
            self.assertEqual(effect_change(one, one), ((), ()))
            # Nothing less leads there.
            for at in range(len(back)):
                self.assertNotIn(self.result(one, back[:at] + back[at + 1:], told), [other])
            for at in range(len(told)):
                self.assertNotIn(self.result(one, back, told[:at] + told[at + 1:]), [other])

    def result(self, lot, back, told):
        """What comes of a lot, or the error."""
        error = error_of(changed, lot, back, told)
        return error or changed(lot, back, told)

    def test_what_cannot_be_done(self):
        dice = Dice(185)
        seen = {"back": 0, "told": 0, "done": 0}
        for _ in range(600):
            lot, back, told = some_lot(dice), some_lot(dice), some_lot(dice)
            if dice.random.random() < 0.7:
                back = tuple(effect for effect in lot if dice.random.random() < 0.6)
            result = self.result(lot, back, told)
            lacking = [effect for effect in back if effect not in lot]
            kept = [effect for effect in lot if effect not in back]
            there = [effect for effect in told if effect[:2] in [other[:2] for other in kept]]
            if lacking:
                word, due = "back", ("Refused", repr(("back", lacking[0])))
            elif there:
                word, due = "told", ("Refused", repr(("told", there[0])))
            else:
                word, due = "done", tuple(sorted([*kept, *told]))
            self.assertEqual(result, due)
            seen[word] += 1
        self.assertGreater(min(seen.values()), 30)
        # An effect with the number of one that is there, but unlike it, is not there; the same one told again is refused.
        self.assertEqual(self.result(LOT, ((0, 0, 1, 6),), ()), ("Refused", repr(("back", (0, 0, 1, 6)))))
        self.assertEqual(self.result(LOT, (), LOT[:1]), ("Refused", repr(("told", LOT[0]))))
        self.assertEqual(self.result(LOT, LOT, LOT[:1]), LOT[:1])
        self.assertEqual(self.result(LOT, LOT[:1], ((0, 0, 2, 2),)), ((0, 0, 2, 2), *LOT[1:]))

    def test_refused(self):
        check_order(self, effect_change, (LOT, LOT[:2]), [LOTS, LOTS])
        check_order(self, changed, (LOT, LOT[:1], ((9, 0, 1, 1),)), [LOTS, LOTS, LOTS])
        # No lot is told ahead of what cannot be done.
        self.assertEqual(error_of(changed, (), LOT, ((0, 0, 100, 0),)), ("InvalidOperation",))


class EarTest(unittest.TestCase):
    def test_nothing(self):
        ear = Ear()
        self.assertEqual((ear.ticks, ear.lot, len(ear), str(ear)), (0, (), 0, "ear of 0 ticks, 0 effects"))
        with self.assertRaises(TypeError):
            list(ear)

    def test_tellings(self):
        ear = Ear().heard(0, ((1, 5), (99, -3))).heard(1, ()).heard(2, ((0, 0),))
        self.assertEqual((ear.ticks, ear.lot, len(ear), str(ear)), (3, ((0, 0, 1, 5), (0, 1, 99, -3), (2, 0, 0, 0)), 3, "ear of 3 ticks, 3 effects"))
        for tick in (0, 1, 2):
            for pairs in ((), ((5, 5),), ((1, 5), (99, -3))):
                self.assertEqual((ear.heard(tick, pairs), str(ear.heard(tick, pairs))), (ear, str(ear)))
        for tick in (4, 5, 10 ** 60 - 1):
            self.assertEqual(error_of(ear.heard, tick, ()), ("Refused", repr(("hole", 3))))
        self.assertEqual(ear.heard(3, ()).ticks, 4)

    def test_equality(self):
        ear = Ear().heard(0, ((1, 5),))
        self.assertTrue(ear == Ear().heard(0, ((1, 5),)) and not ear != Ear().heard(0, ((1, 5),)))
        for other in [*JUNK, Ear().heard(0, ()), Ear().heard(0, ((1, 6),)), ear.heard(1, ()), ear.heard(1, ((1, 5),))]:
            self.assertTrue(ear != other and not ear == other)
        self.assertTrue(Ear() in JUNK)

    def test_refused(self):
        ear = Ear().heard(0, ())
        pairs = [(value, ("InvalidOperation",)) for value in [value for value in JUNK if value != ()] + [
            ((-1, 0),), ((100, 0),), ((True, 0),), ((0, True),), ((0, 1000000001),), ((0, -1000000001),), ((0,),), ((0, 0, 0),), ([0, 0],), [(0, 0)], ((0, 0), None),
            ((0, None),)]]
        for tick in (0, 1, 5):
            for value, error in pairs:
                self.assertEqual(error_of(ear.heard, tick, value), error, (tick, value))
        check_order(self, ear.heard, (1, ((0, 0), (99, 10 ** 9))), [whole_choices(), pairs])

    def test_any_tellings_of_a_row(self):
        dice = Dice(186)
        refused = 0
        for _ in range(60):
            game = games(dice)
            row = tuple(dice.joint(game) for _ in range(dice.random.randint(0, 6)))
            told, lot = list(tellings(game, row)), effects_of(game, row)
            ear = Ear()
            # Old ones behind new ones, twice, in any sequence; those that come too early are left out.
            for telling in [dice.some(*told) for _ in range(len(row) * 2)]:
                error = error_of(ear.heard, *telling)
                if error is None:
                    ear = ear.heard(*telling)
                else:
                    self.assertEqual((error, telling[0] > ear.ticks), (("Refused", repr(("hole", ear.ticks))), True))
                    refused += 1
                self.assertEqual(ear.lot, effects_of(game, row[:ear.ticks]))
                self.assertEqual(ear.lot, lot[:len(ear)])
            # A host that fell tells again what it had told.
            for telling in told[dice.random.randint(0, min(ear.ticks, len(row))):]:
                ear = ear.heard(*telling)
            self.assertEqual((ear.ticks, ear.lot), (len(row), lot))
            among = Ear()
            for telling in told:
                among = among.heard(*telling).heard(*dice.some(*told[:telling[0] + 1]))
            self.assertEqual(among, ear)
        self.assertGreater(refused, 30)


class NotTrueTest(unittest.TestCase):
    def test_what_is_not_true(self):
        # Rows with equal effects have equal plain worlds.
        self.assertEqual(effects_of(COINS, ((2, 0),)), effects_of(COINS, ((0, 0),)))
        self.assertNotEqual(plain(COINS, ((2, 0),)), plain(COINS, ((0, 0),)))
        # What is never taken back is settled.
        line = Timeline(Setup(LOUD), 0).advanced()
        self.assertEqual((line.settled, len(shown_effects(line))), (0, 4))
        # Only effects of ticks for which a key was guessed wrongly are taken back: the coin is grabbed two ticks later.
        shown = Timeline(PAIR, 0).pressed(2).advanced().pressed(2).advanced().advanced()
        other = shown.told(0, ((0, 0),))
        self.assertEqual([shown.used(tick) == other.used(tick) for tick in (0, 1, 2)], [False, True, True])
        self.assertEqual(effect_change(shown_effects(shown), shown_effects(other))[0], ((2, 0, 1, 0),))


if __name__ == "__main__":
    unittest.main()
