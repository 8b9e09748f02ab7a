"""The main statements over the whole program: what holds behind each act of a match, at all machines, and outside."""

import unittest

from helper import COINS, Dice
from settledplay.check.prints import first_stray, halved, is_print_paper, world_print
from settledplay.match.bounds import calm_schedule
from settledplay.match.effects import Ear, effects_of, tellings
from settledplay.match.match import each_standing, first_fault
from settledplay.play.step import next_world, plain
from settledplay.rules.forms import Game
from settledplay.tape.tapes import Seeker, Tape, tape_of, tape_text
from settledplay.world.worlds import first_world

FOUR = Game(COINS.kinds, COINS.entries, COINS.start, arena=(12, 6), seats=4)


class WholeTest(unittest.TestCase):
    def matches(self, seed, many, length):
        """Setups, and the standings behind each act of some match."""
        dice = Dice(seed)
        for _ in range(many):
            setup = dice.small_setup(dice.some(COINS, COINS, FOUR, dice.game()))
            yield dice, setup, list(each_standing(setup, dice.schedule(setup, length, dice.some(0, 1, 1))))

    def test_settled_worlds(self):
        """All worlds that machines keep for settled ticks, offer, and tell the prints of, are those of one row."""
        seen = 0
        for _, setup, standings in self.matches(301, 30, 70):
            worlds = [first_world(setup.game)]
            for standing in standings:
                for joint in standing.row[len(worlds) - 1:]:
                    worlds.append(next_world(setup.game, worlds[-1], joint))
                for place in range(setup.seats + setup.lookers):
                    line = standing.line(place)
                    if line is not None:
                        for tick in range(min(line.settled, line.shown), line.settled + 1):
                            self.assertEqual(line.world_at(tick), worlds[tick])
                            seen += 1
                        self.assertEqual((standing.ground(place), standing.view(place)), (worlds[line.settled], line.shown_world))
                for world in standing.host.offers.values():
                    self.assertEqual(world, worlds[world.tick])
            for letter in standings[-1].bag.letters:
                if letter[0] == "keys":
                    self.assertEqual(letter[4], world_print(worlds[letter[2]]))
        self.assertGreater(seen, 3000)

    def test_who_shows_what(self):
        """A machine waits exactly if shown less settled is W; what it shows comes of its row, its words and the guesses."""
        for _, setup, standings in self.matches(302, 15, 60):
            for standing in standings[::7]:
                for place in range(setup.seats + setup.lookers):
                    line = standing.line(place)
                    if line is not None:
                        self.assertTrue(max(line.base, line.settled - setup.delay) <= line.shown <= line.settled + setup.window)
                        begin = min(line.settled, line.shown)
                        words = tuple(line.used(tick) for tick in range(begin, line.shown))
                        self.assertEqual(line.shown_world, plain(setup.game, standing.row[:begin] + words))

    def test_effects_outside(self):
        """The outside has the effects of the plain game, each once, whatever the host that fell tells again."""
        heard = again = 0
        for dice, setup, standings in self.matches(303, 30, 70):
            ear = Ear()
            for standing in standings:
                if dice.random.random() < 0.3:
                    first = dice.random.randint(0, min(ear.ticks, len(standing.row)))
                    again += first < ear.ticks
                    for tick, pairs in tellings(setup.game, standing.row, first=first):
                        ear = ear.heard(tick, pairs)
                self.assertEqual(ear.lot, effects_of(setup.game, standing.row[:ear.ticks]))
            heard += len(ear)
        self.assertTrue(heard > 20 and again > 20, (heard, again))

    def test_tapes(self):
        """A tape gives back each settled world."""
        for dice, setup, standings in self.matches(304, 20, 60):
            row = standings[-1].row
            tape = tape_of(tape_text(Tape(setup.game, row)))
            seeker = Seeker(tape, spacing=dice.random.randint(1, 5))
            for standing in standings[::9]:
                tick = len(standing.row)
                self.assertEqual(tape.until(tick), Tape(setup.game, standing.row))
                for world in (tape.world(tick), seeker.world(tick)):
                    self.assertEqual(world, standing.ground(0))

    def test_papers(self):
        """Who tells the worlds of the row is never named; who tells a wrong print is."""
        for dice, setup, standings in self.matches(305, 15, 60):
            row = standings[-1].row
            report = tuple(plain(setup.game, row[:tick]) for tick in range(len(row) + 1))
            self.assertIsNone(first_stray(setup.game, row, report))
            due = tuple(world_print(world) for world in report)
            self.assertIsNone(halved(due, due)[0])
            for letter in standings[-1].bag.letters:
                if letter[0] == "keys":
                    told = letter[4]
                    self.assertIs(is_print_paper(setup.game, row, ("print", letter[2], told, due[letter[2]])), False)
                    self.assertIs(is_print_paper(setup.game, row, ("print", letter[2], (told + 1) % 999999937, due[letter[2]])), True)

    def test_calm(self):
        """From each standing calm rounds settle one more tick at all machines."""
        for _, _, standings in self.matches(306, 15, 60):
            for standing in standings[::6]:
                places = [0] + [player.place for player in standing.players if player.state in ("there", "coming")]
                after = standing
                for act in calm_schedule(standing):
                    after = after.after(act)
                self.assertTrue(all(after.line(place).settled > len(standing.row) for place in places))
                self.assertIsNone(first_fault(after))
                self.assertEqual(after.row[:len(standing.row)], standing.row)


if __name__ == "__main__":
    unittest.main()
