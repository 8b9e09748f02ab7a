"""Stage 15: the other machines."""

import unittest

from helper import COINS, JUNK, PAIR, Dice, NaiveMachine, NaiveMatch, check_order, error_of, naive_print, number_error, refused_all
from settledplay.net.letters import is_letter
from settledplay.play.keys import Setup, is_row, stay
from settledplay.play.step import plain
from settledplay.play.timeline import Timeline
from settledplay.rules.forms import Game
from settledplay.seat.joining import Gathering, gathered, offer
from settledplay.seat.player import Player, keys_letter
from settledplay.world.worlds import World, changed, first_world, world_text

FOUR = Game(COINS.kinds, COINS.entries, COINS.start, arena=(12, 6), seats=4)
LATE = Setup(COINS, window=3, delay=1, starters=(0,), lookers=2)
SETUPS = [(value, ("InvalidSetup",)) for value in JUNK if not isinstance(value, Setup)]
PLACES = [(value, number_error(value)) for value in (0, 2, -1, True, False, None, "1", 10 ** 60, (1,), [1])]
FIRST = first_world(COINS)
# A letter of each sort for the place 1, and some for others.
TO_ONE = (("rows", 1, 0, ((2, 3),)), ("rows", 1, 0, ()), ("keys", 1, 0, (1,), 5), ("word", 1, "come"), ("word", 1, "go"),
          ("piece", 1, 0, 0, 1, world_text(FIRST)), ("piece", 1, 4, 1, 2, "x"))
TO_OTHERS = tuple((letter[0], 2, *letter[2:]) for letter in TO_ONE)


def rows(place, first, *words):
    """A rows letter."""
    return ("rows", place, first, words)


def parts(player):
    """All properties."""
    return (player.setup, player.place, player.seat, player.state, player.timeline, player.gathering, player.is_waiting)


def began(setup, place, world):
    """A machine that came at the world."""
    player = Player(setup, place).come()
    for letter in offer(setup, place, world):
        player = player.heard(letter)
    return player


def beats(player, *words):
    """The machine behind beats."""
    for word in words:
        player = player.beat(word)
    return player


class StatesTest(unittest.TestCase):
    def test_beginnings(self):
        setup = Setup(FOUR, starters=(0, 2), lookers=2)
        for place, seat, state in ((1, 1, "away"), (2, 2, "there"), (3, 3, "away"), (4, None, "away"), (5, None, "away")):
            player = Player(setup, place)
            line = Timeline(setup, place) if state == "there" else None
            self.assertEqual(parts(player), (setup, place, seat, state, line, None, False))
            self.assertEqual(player.letter(), ("keys", place, 0, (), naive_print(world_text(FIRST))) if line else None)

    def states(self):
        """A machine in each state, all of the place 1."""
        away, there = Player(LATE, 1), began(LATE, 1, FIRST)
        return {"away": away, "coming": away.come(), "part": away.come().heard(TO_ONE[6]), "there": there, "gone": there.go(), "left": away.come().go()}

    def test_wishes(self):
        states = self.states()
        self.assertEqual([states[name].state for name in states], ["away", "coming", "coming", "there", "gone", "gone"])
        come = {"away": states["coming"]}
        go = {"coming": states["gone"], "part": states["gone"], "there": states["gone"]}
        for name, player in states.items():
            self.assertEqual(parts(player.come()), parts(come.get(name, player)), name)
            self.assertEqual(parts(player.go()), parts(go.get(name, player)), name)
        self.assertEqual(parts(states["coming"]), (LATE, 1, 1, "coming", None, Gathering(LATE, 1), False))
        self.assertEqual(parts(states["gone"]), (LATE, 1, 1, "gone", None, None, False))

    def test_letters_that_are_sent(self):
        states = self.states()
        keys = ("keys", 1, 0, (), naive_print(world_text(FIRST)))
        letters = {"coming": ("word", 1, "come"), "part": ("word", 1, "come"), "there": keys}
        for name, player in states.items():
            self.assertEqual(player.letter(), letters.get(name), name)

    def test_beats(self):
        for name, player in self.states().items():
            after = player.beat(5)
            if name == "there":
                self.assertEqual((after.timeline.own, after.timeline.shown, after.letter()[3]), ({tick: 5 for tick in range(4)}, 1, (5,) * 4))
            else:
                self.assertEqual((parts(after), after.letter()), (parts(player), player.letter()), name)

    def test_heard(self):
        states = self.states()
        due = {("there", TO_ONE[0]): Timeline(LATE, 1, FIRST).told(0, ((2, 3),))}
        for name, player in states.items():
            for letter in TO_ONE + TO_OTHERS:
                heard = player.heard(letter)
                if name in ("coming", "part") and letter == TO_ONE[5]:
                    # A piece of a lesser tick than that of the gathering is nothing.
                    self.assertEqual(parts(heard), parts(states["there" if name == "coming" else "part"]))
                elif name == "coming" and letter == TO_ONE[6]:
                    self.assertEqual(parts(heard), parts(states["part"]))
                elif (name, letter) in due:
                    self.assertEqual((heard.timeline, heard.state), (due[name, letter], "there"))
                else:
                    self.assertEqual(parts(heard), parts(player), (name, letter))
                self.assertEqual(parts(heard.heard(letter)), parts(heard))

    def test_equality(self):
        states = list(self.states().values())
        states += [Player(LATE, 2), Player(LATE, 3).come(), Player(Setup(COINS), 1), Player(PAIR, 1), Player(PAIR, 1).beat(0), Player(PAIR, 1).beat(1)]
        for one in states:
            for other in states:
                self.assertEqual((one == other, one != other), (parts(one) == parts(other), parts(one) != parts(other)))
            for value in JUNK:
                self.assertIs(one == value, isinstance(value, Player) and parts(one) == parts(value))
        with self.assertRaises(TypeError):
            list(states[0])

    def test_refused(self):
        check_order(self, Player, (PAIR, 1), [SETUPS, PLACES])
        self.assertEqual([error_of(Player, LATE, place) for place in range(5)], [number_error(0), None, None, None, number_error(4)])
        for player in self.states().values():
            refused_all(self, player.beat, "InvalidWord")
            refused_all(self, player.heard, "InvalidLetter")
            for letter in (rows(0, 0), rows(6, 0), ["rows", 1, 0, ()], ("rows", 1, True, ()), ("piece", 1, 0, 1, 1, "x"), ("word", 1, "stay")):
                self.assertEqual(error_of(player.heard, letter), ("InvalidLetter",))
            self.assertEqual([error_of(player.beat, word) for word in (64, -1, 0, 63)], [("InvalidWord",)] * 2 + [None] * 2)


class BeatTest(unittest.TestCase):
    def test_the_window(self):
        for window, delay in ((1, 0), (1, 8), (3, 1), (12, 0), (12, 8)):
            setup = Setup(COINS, window=window, delay=delay)
            player = Player(setup, 1)
            for beat in range(window):
                self.assertEqual((player.is_waiting, player.timeline.shown), (False, beat))
                player = player.beat(beat)
            self.assertIs(player.is_waiting, True)
            words = tuple([0] * delay + list(range(window)))
            self.assertEqual(player.letter(), ("keys", 1, 0, words, naive_print(world_text(FIRST))))
            self.assertEqual(len(words), window + delay)
            # One that waits says nothing new, but it sends its letter.
            self.assertEqual((parts(player.beat(63)), player.beat(63).letter()), (parts(player), player.letter()))
            # A settled tick more, and it does not wait.
            more = player.heard(rows(1, 0, (0, 0)))
            self.assertIs(more.is_waiting, False)
            self.assertEqual((more.beat(9).timeline.shown, more.beat(9).is_waiting), (window + 1, True))

    def test_what_is_said(self):
        player = beats(Player(PAIR, 1), 3, 4)
        self.assertEqual(player.timeline.own, {0: 3, 1: 3, 2: 4})
        told = player.heard(rows(1, 0, (0, 3), (0, 64)))
        self.assertEqual((told.timeline.own, told.letter()), ({2: 4}, ("keys", 1, 2, (4,), naive_print(world_text(plain(COINS, ((0, 3), (0, 64))))))))
        self.assertEqual(told.beat(5).timeline.own, {2: 4, 3: 5})

    def test_ahead_of_its_stay(self):
        player = began(LATE, 1, FIRST).beat(7)
        self.assertEqual((player.timeline.own, player.letter()[2:4]), ({0: 7, 1: 7, 2: 7, 3: 7}, (0, (7,) * 4)))
        told = player.heard(rows(1, 0, (0, -1))).beat(8)
        self.assertEqual(told.timeline.own, {1: 7, 2: 7, 3: 7, 4: 8})
        # Once it is in, a press goes up to the shown tick and the delay.
        taken = told.heard(rows(1, 1, (0, 7))).beat(9)
        self.assertEqual((taken.timeline.shown, taken.timeline.own), (3, {2: 7, 3: 7, 4: 8}))

    def test_a_looker_on(self):
        player = beats(began(LATE, 2, FIRST), 5, 6)
        self.assertEqual((player.timeline.own, player.timeline.shown, player.is_waiting), ({}, 2, False))
        self.assertEqual(player.letter(), ("keys", 2, 0, (), naive_print(world_text(FIRST))))
        waits = player.beat(1)
        self.assertEqual((waits.is_waiting, parts(waits.beat(1))), (True, parts(waits)))

    def test_a_seat_that_is_out(self):
        player = Player(PAIR, 1).beat(5)
        out = player.heard(rows(1, 0, (0, -1)))
        self.assertEqual((out.timeline.own, stay(PAIR, out.timeline.row, 1)), ({1: 5}, "out"))
        after = out.beat(6)
        self.assertEqual((after.timeline.own, after.timeline.shown, after.letter()[2:4]), ({1: 5}, 2, (1, (5,))))
        self.assertEqual(beats(after, 6, 6).is_waiting, True)
        self.assertEqual(after.heard(rows(1, 1, (0, -1))).beat(6).letter()[2:4], (2, ()))


class HearingTest(unittest.TestCase):
    def test_rows(self):
        row = ((2, 3), (2, 3), (0, 64), (1, 5))
        player = beats(Player(PAIR, 1), 3, 3).heard(rows(1, 0, *row[:2]))
        self.assertEqual(player.timeline.row, row[:2])
        # A hole, what is unlike, another place, joint words of other games: nothing is taken.
        for letter in (rows(1, 3, row[3]), rows(1, 3), rows(1, 10 ** 60 - 1), rows(1, 0, (2, 3), (2, 67), (0, 64)), rows(1, 1, (2, 2), (0, 64)), rows(1, 0, (2, -1)),
                       rows(2, 2, *row[2:]), rows(1, 2, (0,)), rows(1, 2, (0, 0, 0)), rows(1, 0, (2, 3, 0)), rows(1, 2), rows(1, 0, *row[:2])):
            self.assertEqual(parts(player.heard(letter)), parts(player), letter)
        for first in (0, 1, 2):
            heard = player.heard(rows(1, first, *row[first:]))
            self.assertEqual((heard.timeline.row, heard.timeline.settled_world), (row, plain(COINS, row)))
            self.assertEqual(parts(heard), parts(player.heard(rows(1, 2, *row[2:]))))

    def test_ahead_of_the_base(self):
        row = ((2, -1), (1, -1), (0, 4), (3, 5))
        player = began(LATE, 1, plain(COINS, row[:2]))
        self.assertEqual((player.timeline.base, player.timeline.settled), (2, 2))
        due = player.heard(rows(1, 2, *row[2:]))
        self.assertEqual((due.timeline.settled, due.timeline.settled_world), (4, plain(COINS, row)))
        for first in (0, 1):
            self.assertEqual(parts(player.heard(rows(1, first, *row[first:]))), parts(due))
            self.assertEqual(parts(player.heard(rows(1, first, *row[first:2]))), parts(player))
        # What is unlike ahead of the base can not be seen.
        self.assertEqual(parts(player.heard(rows(1, 1, (9, 9), *row[2:]))), parts(due))
        self.assertEqual(parts(player.heard(rows(1, 3, row[3]))), parts(player))

    def test_pieces(self):
        far = World(10 ** 59, 10 ** 59, 0, tuple((10 ** 58 + at, "hero", (-10 ** 9,) * 5) for at in range(9)))
        letters = offer(LATE, 1, far)
        self.assertGreater(len(letters), 3)
        player = Player(LATE, 1).come()
        for many, letter in enumerate(letters[::-1]):
            self.assertEqual((player.state, len(player.gathering)), ("coming", many))
            player = player.heard(letter)
        self.assertEqual((player.state, player.timeline, player.gathering), ("there", Timeline(LATE, 1, far), None))
        self.assertEqual(parts(player.heard(letters[0])), parts(player))
        looker = began(LATE, 3, far)
        self.assertEqual((looker.state, looker.timeline), ("there", Timeline(LATE, None, far)))

    def test_pieces_that_tell_no_world(self):
        player = Player(LATE, 1).come()
        for text in ("x", "1 0 0", "0 0 0;0 coin 1 2 3 4", "0 1 0;0 elf 1", "0 1 0;0 coin 1"):
            heard = player.heard(("piece", 1, 0, 0, 1, text))
            self.assertEqual((heard.state, heard.timeline, heard.gathering.is_whole()), ("coming", None, True))
            self.assertEqual(heard.letter(), ("word", 1, "come"))
            self.assertEqual(parts(heard.heard(("piece", 1, 0, 0, 1, world_text(FIRST)))), parts(heard))
            self.assertEqual(heard.heard(("piece", 1, 3, 0, 1, "3 0 0")).timeline, Timeline(LATE, 1, World(3, 0, 0, ())))

    def test_a_new_offer(self):
        row = ((2, -1), (1, -1))
        one, two = offer(LATE, 1, World(1, 200, 0, tuple((at, "coin", (10 ** 9,) * 4) for at in range(90, 99)))), offer(LATE, 1, plain(COINS, row))
        player = Player(LATE, 1).come().heard(one[0])
        self.assertEqual((player.gathering.tick, player.gathering.lacks), (1, tuple(range(1, len(one)))))
        self.assertEqual(player.heard(two[0]).timeline, Timeline(LATE, 1, plain(COINS, row)))
        self.assertEqual(player.gathering, gathered(LATE, 1, one[:1]))


class LetterTest(unittest.TestCase):
    def test_keys_letters(self):
        dice = Dice(151)
        for _ in range(40):
            setup = dice.small_setup(dice.some(COINS, FOUR))
            for place in range(1, setup.seats + setup.lookers):
                seat = place if place < setup.seats else None
                row = dice.match_row(setup, dice.random.randint(0, 4))
                line = Timeline(setup, seat).told(0, row)
                if seat is not None:
                    line = line.pressed(dice.random.randint(0, 63)).advanced()
                letter = keys_letter(setup, place, line)
                self.assertEqual(letter, ("keys", place, len(row), tuple(line.own.values()), naive_print(world_text(plain(setup.game, row)))))
                self.assertTrue(is_letter(letter))

    def test_refused(self):
        lines = [(value, ("InvalidOperation",)) for value in JUNK]
        lines += [(value, ("InvalidOperation",)) for value in (Timeline(PAIR, None), Timeline(PAIR, 0), Timeline(Setup(COINS), 1), Player(PAIR, 1))]
        check_order(self, keys_letter, (PAIR, 1, Timeline(PAIR, 1)), [SETUPS, PLACES, lines])
        self.assertEqual([error_of(keys_letter, LATE, place, Timeline(LATE, None)) for place in range(5)],
                         [number_error(0), ("InvalidOperation",), None, None, number_error(4)])
        self.assertIsNone(error_of(keys_letter, Setup(COINS, window=3, delay=1, patience=2, silence=3), 1, Timeline(PAIR, 1)))


class RandomTest(unittest.TestCase):
    """Machines that hear rows and pieces of one row alone, beside naive ones."""

    def letter(self, dice, setup, place, row, worlds):
        """Some letter of the row, most often one for this place."""
        first = dice.random.randint(0, len(row))
        place = dice.some(place, place, place, 1)
        if dice.random.random() < 0.6:
            return rows(place, first, *row[first:first + dice.random.randint(0, 3)])
        return dice.some(*offer(setup, place, worlds[first]), ("word", place, "come"), ("keys", place, first, (), 0))

    def act(self, dice, player, naive, setup, row, worlds):
        """Something happens to both."""
        what = dice.random.random()
        if what < 0.35:
            word = dice.random.randint(0, 3)
            sent = naive.beat(word)
            player = player.beat(word)
            self.assertEqual([player.letter()] if player.letter() else [], sent)
        elif what < 0.4:
            naive.wish("come")
            player = player.come()
        elif what < 0.405:
            naive.wish("go")
            player = player.go()
        else:
            letter = self.letter(dice, setup, player.place, row, worlds)
            heard = player.heard(letter)
            self.assertEqual(parts(heard.heard(letter)), parts(heard))
            if letter[1] == player.place:
                naive.hear(letter)
            player = heard
        return player

    def test_random_machines(self):
        dice = Dice(153)
        many = {"there": 0, "gone": 0, "coming": 0, "away": 0}
        for _ in range(60):
            setup = dice.small_setup(dice.some(COINS, FOUR, dice.game()))
            if setup.seats + setup.lookers == 1:
                continue
            place = dice.random.randint(1, setup.seats + setup.lookers - 1)
            row = dice.match_row(setup, 14)
            worlds = [plain(setup.game, row[:tick]) for tick in range(len(row) + 1)]
            player, naive, said = Player(setup, place), NaiveMachine(setup, place, {}), {}
            match = NaiveMatch(setup)
            for _ in range(70):
                former = player
                player = self.act(dice, player, naive, setup, row, worlds)
                match.check_machine(self, player, naive)
                if player.timeline is not None:
                    self.check(player, former, row, worlds, said)
                many[player.state] += 1
        self.assertTrue(min(many.values()) > 50 and many["there"] > 1500, many)

    def check(self, player, former, row, worlds, said):
        """What is true of each machine that hears of one row alone."""
        line, setup = player.timeline, player.setup
        self.assertEqual(line.row, row[line.base:line.settled])
        self.assertTrue(line.settled <= len(row) and is_row(setup, row[:line.settled]))
        self.assertEqual(line.settled_world, worlds[line.settled])
        world = worlds[min(line.settled, line.shown)]
        words = tuple(line.used(tick) for tick in range(world.tick, line.shown))
        due = Timeline(setup, None, world).told(world.tick, tuple(words)).settled_world
        self.assertEqual(line.shown_world, due)
        self.assertTrue(max(line.base, line.settled - setup.delay) <= line.shown <= line.settled + setup.window)
        if former.timeline is not None:
            self.assertTrue(line.settled >= former.timeline.settled and line.base == former.timeline.base)
        # It says one word for each tick, and all from the settled one on are in each letter; they are few.
        for tick, word in line.own.items():
            self.assertEqual(said.setdefault(tick, word), word)
        _, _, first, words, _ = player.letter()
        self.assertEqual((first, words), (line.settled, tuple(said[tick] for tick in sorted(said) if tick >= first)))
        self.assertLessEqual(len(words), setup.window + setup.delay)


class NotTrueTest(unittest.TestCase):
    def test_what_is_not_true(self):
        # A machine that hears each letter is settled as far as the host: a hole keeps it behind.
        self.assertEqual(Player(PAIR, 1).heard(rows(1, 1, (0, 0))).timeline.settled, 0)
        # A beat that waits sends nothing; the word of a beat is said for the tick that is shown.
        waits = beats(Player(PAIR, 1), 1, 1, 1)
        self.assertTrue(waits.is_waiting and waits.letter() is not None)
        self.assertEqual(beats(Player(PAIR, 1), 1, 2).timeline.own, {0: 1, 1: 1, 2: 2})
        # A machine that knows more settled ticks shows a later tick.
        knows = Player(PAIR, 1).heard(rows(1, 0, (0, 0)))
        self.assertTrue(knows.timeline.settled > waits.timeline.settled and knows.timeline.shown < waits.timeline.shown)
        # An unlike world that is offered is where a machine begins: it trusts who offers.
        self.assertEqual(began(LATE, 1, changed(FIRST, 0, 0, 7)).timeline.settled_world.numbers(0)[0], 7)


if __name__ == "__main__":
    unittest.main()
