"""Stage 21: bounds, even rounds, and calm."""

import unittest

from helper import COINS, JUNK, PAIR, Dice, check_order, error_of, number_error
from settledplay.match.bounds import (MAX_LATE, calm_bound, calm_goal, calm_round, calm_schedule, does_never_wait, even_depths, even_row,
                                      even_schedule)
from settledplay.match.match import Standing, each_standing, is_sound
from settledplay.play.keys import Setup
from settledplay.rules.forms import Game

THREE = Game(COINS.kinds, COINS.entries, COINS.start, arena=(12, 6), seats=3)
FOUR = Game(COINS.kinds, COINS.entries, COINS.start, arena=(12, 6), seats=4)
ALONE = Game(COINS.kinds, COINS.entries, COINS.start, arena=(12, 6), seats=1)
# Whatever was heard once is kept for ever: worlds that were unlike stay so.
KEEN = Game((("ear", (("seat", 0), ("n", 0)), None),),
            (("for", "ear", (("set", "n", ("rest", ("plus", ("times", ("own", "n"), 2), ("plus", ("key", 0), 1)), 1000003)),)),),
            (("ear", (0, 0)), ("ear", (1, 0))), arena=(1, 1))
LATE = Setup(COINS, window=3, delay=1, patience=2, silence=3, starters=(0,), lookers=1)
SETUPS = [(value, ("InvalidSetup",)) for value in JUNK if not isinstance(value, Setup)]
STANDINGS = [(value, ("InvalidStanding",)) for value in JUNK if not isinstance(value, Standing)]
LATES = [(value, number_error(value)) for value in (0, 13, -1, True, False, None, "1", 10 ** 60, (1,), [1])]
WORDS = [(value, ("InvalidWord",)) for value in JUNK if value != ()]
WORDS += [(value, ("InvalidWord",)) for value in (((0,),), ((0, 0, 0),), ((0, 64),), ((-1, 0),), ((0, True),), ((0, 0), None), [(0, 0)], ([0, 0],), (0, 0), ((0, "1"),))]


def wide(game, late, **more):
    """A setup in which nobody waits, and nothing is filled."""
    return Setup(game, window=2 * late, patience=late + 1, **more)


def words_of(dice, game, rounds):
    """Words for each seat in some rounds."""
    return tuple(tuple(dice.random.randint(0, 3) for _ in range(game.seats)) for _ in range(rounds))


def rounds_of(setup, late, words):
    """The acts of each round, from what is sent as it is sent."""
    standing, sent, rounds = Standing(setup), [], []
    for at, told in enumerate(words):
        acts = [("hand", number) for number in (sent[at - late] if at >= late else ())]
        acts += [("beat", seat, word) for seat, word in enumerate(told)] + [("tell",)]
        many = len(standing.bag)
        for act in acts:
            standing = standing.after(act)
        sent.append(range(many, len(standing.bag)))
        rounds.append(tuple(acts))
    return rounds


def done(standing, acts):
    """The standing behind acts, of which there can be more than 600."""
    for act in acts:
        standing = standing.after(act)
    return standing


class EvenTest(unittest.TestCase):
    def test_schedules(self):
        dice = Dice(211)
        for game in (COINS, THREE, FOUR, KEEN):
            for late in (1, 2, 3, 6, 12):
                for lookers in (0, 2):
                    setup = Setup(game, window=dice.random.randint(1, 12), delay=dice.random.randint(0, 8), patience=dice.random.randint(late + 1, 20), lookers=lookers)
                    words = words_of(dice, game, late + dice.random.randint(0, 5))
                    acts = even_schedule(setup, late, words)
                    self.assertEqual(acts, tuple(act for acts in rounds_of(setup, late, words) for act in acts))
        self.assertEqual(even_schedule(PAIR, 12, ()), ())
        self.assertEqual(even_schedule(PAIR, 12, ((1, 2),)), (("beat", 0, 1), ("beat", 1, 2), ("tell",)))
        # There are more rounds than a schedule can have.
        self.assertEqual(len(even_schedule(PAIR, 1, ((0, 0),) * 300)), 300 * 5 - 2)

    def test_rows(self):
        dice = Dice(212)
        for _ in range(60):
            game = dice.some(COINS, COINS, THREE, FOUR, KEEN)
            late = dice.random.randint(1, 6)
            setup = Setup(game, window=dice.random.randint(2 * late, 12), delay=dice.random.randint(0, 8), patience=dice.random.randint(late + 1, 20), silence=1)
            words = words_of(dice, game, late * 2 + 3)
            standing = Standing(setup)
            for at, acts in enumerate(rounds_of(setup, late, words)):
                for act in acts:
                    if act[0] == "beat" and act[1] > 0:
                        # The told tick is shown at the beat of the round, and so many are settled.
                        line = standing.line(act[1])
                        settled = max(0, at - 2 * late + setup.delay + 1) if at >= 2 * late else 0
                        self.assertEqual((line.shown, line.settled, standing.players[act[1] - 1].is_waiting), (at, settled, False))
                    standing = standing.after(act)
                self.assertEqual(even_row(setup, late, words[:at + 1]), standing.row)
                length = at - late + setup.delay + 1 if at >= late else 0
                self.assertEqual(standing.row, tuple(words[max(0, tick - setup.delay)] for tick in range(length)))
        self.assertEqual((even_row(wide(COINS, 2), 2, ()), even_row(wide(COINS, 2), 2, ((1, 2), (3, 4)))), ((), ()))
        self.assertEqual(even_row(wide(COINS, 2, delay=2), 2, ((1, 2), (3, 4), (5, 6))), ((1, 2),) * 3)

    def waits(self, setup, late, rounds):
        """Whether some machine waits at its beat in even rounds."""
        dice = Dice(213)
        standing = Standing(setup)
        for act in even_schedule(setup, late, words_of(dice, setup.game, rounds)):
            if act[0] == "beat" and standing.line(act[1]).shown - standing.line(act[1]).settled == setup.window:
                return True
            standing = standing.after(act)
        return False

    def test_who_waits(self):
        for game, late, window, delay in ((COINS, 1, 1, 0), (COINS, 1, 2, 0), (COINS, 2, 3, 0), (COINS, 2, 3, 8), (COINS, 2, 4, 0), (THREE, 2, 4, 3), (THREE, 3, 5, 1),
                                          (THREE, 3, 6, 1), (COINS, 5, 9, 2), (COINS, 5, 10, 2), (COINS, 6, 11, 0), (COINS, 6, 12, 0), (COINS, 7, 12, 8), (COINS, 12, 12, 8)):
            setup = Setup(game, window=window, delay=delay, patience=late + 1)
            self.assertIs(does_never_wait(setup, late), window >= 2 * late)
            self.assertEqual(self.waits(setup, late, 2 * late + 20), window < 2 * late, (late, window, delay))
            self.assertEqual(error_of(even_row, setup, late, ()), None if window >= 2 * late else ("Refused", repr(("waits",))))

    def depths(self, setup, late, words):
        """How many steps run again: at the first letter with joint words, at each later one, and so at the host's tells."""
        standing, letters, tells = Standing(setup), {}, []
        for act in even_schedule(setup, late, words):
            former = standing
            standing = standing.after(act)
            if act[0] == "tell" and len(standing.row) > len(former.row):
                tells.append(standing.line(0).reruns - former.line(0).reruns)
            for place in range(1, setup.seats):
                many = standing.line(place).reruns - former.line(place).reruns
                if act[0] == "hand" and standing.line(place).settled > former.line(place).settled:
                    letters.setdefault(place, []).append(many)
                elif many:
                    self.fail("a step was run again without a letter")
        return letters, tells

    def test_depths(self):
        dice = Dice(214)
        for _ in range(25):
            game = dice.some(COINS, THREE, KEEN, dice.game())
            if game.seats < 2:
                continue
            late = dice.random.randint(1, 4)
            setup = Setup(game, window=dice.random.randint(2 * late, 12), delay=dice.random.randint(0, 8), patience=late + 1, guesses=dice.some(None, (1,) * 64))
            first, later, of_host, of_host_later = even_depths(setup, late)
            letters, tells = self.depths(setup, late, words_of(dice, game, 2 * late + 6))
            self.assertTrue(letters and all(many[0] <= first and max(many[1:]) <= later for many in letters.values()))
            self.assertTrue(tells[0] <= of_host and max(tells[1:]) <= of_host_later)

    def test_just_so_deep(self):
        for late in (1, 2, 3, 5, 6):
            for delay in (0, 1, 2, 3, 5, 8):
                setup = Setup(KEEN, window=12, delay=delay, patience=late + 1)
                # Each word is unlike the one ahead of it, which is the guess.
                words = tuple((1 - at % 2,) * 2 for at in range(2 * late + 8))
                letters, tells = self.depths(setup, late, words)
                first, later, of_host, of_host_later = even_depths(setup, late)
                self.assertEqual((first, later), (2 * late, max(0, 2 * late - delay)))
                self.assertEqual((of_host, of_host_later), (late + 1, max(0, late + 1 - delay)))
                self.assertEqual((letters[1], tells), ([first] + [later] * 7, [of_host] + [of_host_later] * (len(words) - late - 1)))

    def test_refused(self):
        good = wide(COINS, 3)
        check_order(self, even_schedule, (good, 3, ((0, 0), (63, 0))), [SETUPS, LATES, WORDS])
        check_order(self, even_row, (good, 3, ((0, 0), (63, 0))), [SETUPS, LATES, WORDS])
        for function in (does_never_wait, even_depths):
            check_order(self, function, (good, 3), [SETUPS, LATES])
        for function in (even_schedule, even_row):
            self.assertEqual([error_of(function, LATE, 1, words) for words in ((), ((0,),), [])], [("InvalidOperation",)] + [("InvalidWord",)] * 2)
        self.assertEqual(MAX_LATE, 12)
        self.assertIsNone(error_of(even_schedule, PAIR, 12, ()))

    def test_what_is_refused_then(self):
        calls = [lambda setup, late: even_schedule(setup, late, ()), does_never_wait, lambda setup, late: even_row(setup, late, ()), even_depths]
        for game in (COINS, FOUR):
            for starters in ((0,), (0, 1, 3), (0, 2), (1,)):
                if starters[-1] >= game.seats or starters[0] or len(starters) == game.seats:
                    continue
                for window, patience in ((12, 20), (1, 20), (12, 1), (1, 1)):
                    setup = Setup(game, window=window, patience=patience, starters=starters)
                    self.assertEqual([error_of(call, setup, 2) for call in calls], [("InvalidOperation",)] * 4)
        self.assertEqual([error_of(call, Setup(ALONE), 2) for call in calls], [("InvalidOperation",)] * 4)
        for late in (1, 3, 6):
            for window, patience, error in ((2 * late, late + 1, None), (2 * late, late, "fills"), (2 * late - 1, late + 1, "waits"), (2 * late - 1, late, "waits"), (12, 20, None)):
                setup = Setup(COINS, window=window, patience=patience)
                due = error and ("Refused", repr((error,)))
                self.assertEqual([error_of(call, setup, late) for call in calls], [None, None, due, due])
        for late in (7, 12):
            self.assertEqual(error_of(even_depths, Setup(COINS, window=12, patience=20), late), ("Refused", repr(("waits",))))


class EveryStandingTest(unittest.TestCase):
    def test_bounds(self):
        dice = Dice(215)
        deepest = longest = 0
        for _ in range(40):
            setup = dice.small_setup(dice.some(COINS, THREE, FOUR, KEEN, dice.game()))
            acts = dice.schedule(setup, 80)
            former = None
            for standing in each_standing(setup, acts):
                self.letters(setup, standing.bag.letters[len(former.bag) if former else 0:])
                for place in range(setup.seats + setup.lookers):
                    lines = [former and former.line(place), standing.line(place)]
                    if None not in lines and lines[0].base == lines[1].base:
                        many = lines[1].reruns - lines[0].reruns
                        self.assertTrue(0 <= many <= setup.window)
                        deepest += many == setup.window
                former = standing
            longest += any(letter[0] == "rows" and len(letter[3]) == 2 * setup.window + setup.delay for letter in former.bag.letters)
        self.assertTrue(deepest > 10 and longest > 0, (deepest, longest))

    def letters(self, setup, letters):
        """No letter is too long."""
        for letter in letters:
            if letter[0] == "keys":
                self.assertLessEqual(len(letter[3]), setup.window + setup.delay)
            if letter[0] == "rows":
                self.assertLessEqual(len(letter[3]), 2 * setup.window + setup.delay)


class CalmTest(unittest.TestCase):
    def round(self, standing):
        """The acts of a calm round, and the standing behind it."""
        acts = []
        for part in ("ask", "tell"):
            more = [("beat", 0, 0), ("tell",)]
            if part == "ask":
                more = [("beat", place, 0) for place, player in enumerate(standing.players, 1) if player.state in ("there", "coming")]
            many = len(standing.bag)
            standing = done(standing, more)
            more += [("hand", number) for number in range(many, len(standing.bag))]
            acts += more
            standing = done(standing, more[len(more) - (len(standing.bag) - many):])
        return tuple(acts), standing

    def bound(self, standing):
        """The told bound."""
        ticks = [standing.host.timeline.settled]
        for player in standing.players:
            if player.state == "there":
                ticks.append(player.timeline.settled)
            if player.state == "coming":
                ticks += [world.tick for place, world in standing.host.offers.items() if place == player.place]
                ticks += [] if player.gathering.tick is None else [player.gathering.tick]
        gap, most = len(standing.row) + 1 - min(ticks), 2 * standing.setup.window + standing.setup.delay
        return standing.setup.patience + 1 + -(-gap // most)

    def is_reached(self, standing, places, goal):
        return all(standing.line(place) is not None and standing.line(place).settled >= goal for place in places)

    def check(self, standing):
        """A standing's calm rounds are as few as they are told, and not more than the bound."""
        goal = len(standing.row) + 1
        places = [0] + [player.place for player in standing.players if player.state in ("there", "coming")]
        self.assertEqual((calm_goal(standing), calm_bound(standing)), (goal, self.bound(standing)))
        due, now, rounds = (), standing, 0
        while rounds == 0 or not self.is_reached(now, places, goal):
            acts, now = self.round(now)
            due += acts
            rounds += 1
            if rounds == 1:
                self.assertEqual(calm_round(standing), acts)
                # One that is coming is there behind the first round.
                self.assertNotIn("coming", [player.state for player in now.players])
            self.assertTrue(rounds <= calm_bound(standing), (rounds, calm_bound(standing)))
        self.assertEqual(calm_schedule(standing), due)
        self.assertEqual(done(standing, due), now)
        self.assertIs(is_sound(now), True)
        return rounds

    def test_every_standing(self):
        dice = Dice(216)
        rounds, coming, away, behind = {}, 0, 0, 0
        for _ in range(60):
            setup = dice.small_setup(dice.some(COINS, COINS, FOUR, ALONE, KEEN, dice.game()))
            standing = Standing(setup)
            for act in dice.schedule(setup, 50):
                standing = standing.after(act)
                if dice.random.random() < 0.1:
                    many = self.check(standing)
                    rounds[many] = rounds.get(many, 0) + 1
                    states = [player.state for player in standing.players]
                    coming += "coming" in states
                    away += "away" in states
                    behind += any(player.timeline is not None and player.timeline.settled + 2 < len(standing.row) for player in standing.players)
        self.assertTrue(set(rounds) >= {1, 2, 3} and min(coming, away, behind) > 10, (rounds, coming, away, behind))

    def test_a_machine_that_is_far_behind(self):
        setup = Setup(COINS, window=2, delay=1, patience=1, silence=20)
        standing = done(Standing(setup), (("beat", 0, 0), ("tell",)) * 15)
        self.assertEqual((len(standing.row), standing.line(1).settled, calm_goal(standing)), (15, 0, 16))
        # 16 ticks in steps of 5, and two rounds more.
        self.assertEqual(calm_bound(standing), 1 + 1 + 4)
        self.assertEqual(self.check(standing), 4)

    def test_coming_and_away(self):
        standing = done(Standing(LATE), (("beat", 0, 0), ("tell",)) * 5)
        self.assertEqual([player.state for player in standing.players], ["away", "away"])
        self.assertEqual(calm_round(standing), (("beat", 0, 0), ("tell",)))
        self.assertEqual((calm_bound(standing), self.check(standing)), (2 + 1 + 1, 1))
        coming = done(standing, (("come", 2), ("hand", 0), ("come", 1)))
        # Both are asked, the offer to the one is that which it has.
        first = len(coming.bag)
        self.assertEqual(calm_round(coming)[:4], (("beat", 1, 0), ("beat", 2, 0), ("hand", first), ("hand", first + 1)))
        self.check(coming)
        # The host keeps to an elder world, from which it is a longer way; without an offer the host's tick counts.
        later = done(coming, (("beat", 0, 0), ("tell",)) * 12)
        self.assertEqual((len(later.row), later.host.offers[2].tick, list(later.host.offers)), (18, 6, [2]))
        self.assertEqual(calm_bound(later), 2 + 1 + 2)
        self.check(later)
        fallen = done(later, (("fall", 0, 0),))
        self.assertEqual((fallen.host.offers, calm_bound(fallen)), ({}, 2 + 1 + 1))
        self.check(fallen)

    def test_a_gathering_counts(self):
        # The text of the world needs two pieces, of which one is heard.
        many = Game(COINS.kinds, COINS.entries, (("hero", (1000000000,) * 5),) * 5, arena=(12, 6))
        setup = Setup(many, window=1, delay=0, starters=(0,), lookers=1)
        standing = done(Standing(setup), (("beat", 0, 0), ("tell",), ("come", 2), ("hand", 0), ("tell",), ("hand", 1)))
        self.assertEqual((standing.players[1].state, standing.players[1].gathering.tick, standing.players[1].gathering.many), ("coming", 1, 2))
        fallen = done(standing, (("fall", 0, 0),) + (("beat", 0, 0), ("tell",)) * 8)
        self.assertEqual((fallen.host.offers, len(fallen.row)), ({}, 9))
        self.assertEqual(calm_bound(fallen), 3 + 1 + 5)
        self.check(fallen)

    def test_one_that_is_gone_does_not_count(self):
        setup = Setup(COINS, window=1, delay=0, patience=2, silence=20)
        there = done(Standing(setup), (("beat", 0, 0), ("tell",)) * 18)
        self.assertEqual((len(there.row), calm_bound(there)), (9, 2 + 1 + 5))
        standing = done(there, (("go", 1),))
        self.assertEqual(calm_bound(standing), 2 + 1 + 1)
        # The host still sends letters to the seat, which is in.
        self.assertEqual(calm_round(standing), (("beat", 0, 0), ("tell",), ("hand", len(standing.bag))))
        self.check(standing)

    def test_refused(self):
        for function in (calm_round, calm_goal, calm_schedule, calm_bound):
            check_order(self, function, (Standing(PAIR),), [STANDINGS])


class NotTrueTest(unittest.TestCase):
    def test_what_is_not_true(self):
        # With a greater delay nobody waits more: it is the window that counts.
        self.assertEqual([does_never_wait(Setup(COINS, window=3, delay=delay), 2) for delay in (0, 8)], [False, False])
        # Behind a calm round the host's settled tick is greater: it is still patient with one that has gone, but is not known to be.
        gone = done(Standing(Setup(COINS, patience=5)), (("go", 1),))
        self.assertEqual((done(gone, calm_round(gone)).row, len(done(gone, calm_schedule(gone)).row)), ((), 1))
        # In even rounds each machine knows the row as far as the host.
        late = done(Standing(PAIR), even_schedule(PAIR, 1, ((0, 0),) * 4))
        self.assertTrue(late.line(1).settled < len(late.row))


if __name__ == "__main__":
    unittest.main()
