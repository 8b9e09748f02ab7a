"""Stage 16: coming late."""

import unittest

from helper import COINS, JUNK, PAIR, Dice, check_order, error_of, naive_offer, number_error, refused_all
from settledplay.net.letters import goal, is_letter
from settledplay.play.keys import Setup
from settledplay.play.step import plain
from settledplay.play.timeline import Timeline
from settledplay.rules.forms import Game
from settledplay.seat.joining import PIECE, Gathering, gathered, offer, pieces_of
from settledplay.world.worlds import World, first_world, world_text

SETUP = Setup(COINS)
WATCHED = Setup(COINS, starters=(0,), lookers=2)
SETUPS = [(value, ("InvalidSetup",)) for value in JUNK if not isinstance(value, Setup)]
ALIEN = World(0, 1, 0, ((0, "elf", (1,)),))
WORLDS = [(value, ("InvalidWorld",)) for value in JUNK if not isinstance(value, World)]
WORLDS += [(ALIEN, ("InvalidWorld",)), (World(0, 1, 0, ((0, "coin", (1, 2, 3)),)), ("InvalidWorld",))]
PLACES = [(value, number_error(value)) for value in (0, 2, -1, True, False, None, "1", 10 ** 60, (1,), [1])]
OTHER_LETTERS = (("keys", 1, 0, (), 0), ("rows", 1, 0, ()), ("word", 1, "come"), ("piece", 1, 0, 0, 1, ""), ("piece", 1, 0, 1, 1, "x"),
                 ("piece", 0, 0, 0, 1, "x"), ["piece", 1, 0, 0, 1, "x"], ("piece", 1, 0, 0, 101, "x"), ("piece", 1, 0, 0, 1, "x" * 201),
                 ("piece", 1, True, 0, 1, "x"), ("piece", 6, 0, 0, 1, "x"))
FIRST = first_world(COINS)


def piece(tick, index, many, text="x", place=1):
    """A piece letter."""
    return ("piece", place, tick, index, many, text)


def long_world(length):
    """A world of COINS whose text has so many signs."""
    world = World(7, 200, 5, ((0, "coin", (5, 2, 0, 0)), *[(at, "coin", (1000000000, -999999999, 0, 0)) for at in range(100, 111)]))
    while len(world_text(world)) > length:
        world = World(7, 200, 5, world.things[:-1])
    # Some digits more bring the text to the very length.
    lacking = length - len(world_text(world))
    things = []
    for at, kind, (x, y, dx, dy) in world.things:
        many = min(lacking, 9)
        lacking -= many
        things.append((at, kind, (x, y, dx, 10 ** many if many else dy)))
    return World(7, 200, 5, tuple(things))


class OfferTest(unittest.TestCase):
    def test_lengths(self):
        self.assertEqual(PIECE, 200)
        for length, many in ((199, 1), (200, 1), (201, 2), (400, 2), (401, 3)):
            world = long_world(length)
            text = world_text(world)
            self.assertEqual(len(text), length)
            pieces = pieces_of(COINS, world)
            self.assertEqual(("".join(pieces), len(pieces)), (text, many))
            self.assertEqual([len(part) for part in pieces[:-1]], [200] * (many - 1))
            self.assertTrue(1 <= len(pieces[-1]) <= 200)
            self.assertEqual(offer(SETUP, 1, world), tuple(("piece", 1, 7, at, many, part) for at, part in enumerate(pieces)))
            self.assertEqual(gathered(SETUP, 1, offer(SETUP, 1, world)).world(), world)

    def test_random_worlds(self):
        dice = Dice(161)
        for _ in range(60):
            game = dice.game()
            setup = dice.setup(game)
            world = dice.world(game)
            self.assertEqual("".join(pieces_of(game, world)), world_text(world))
            for place in range(1, game.seats + setup.lookers):
                letters = offer(setup, place, world)
                self.assertEqual(list(letters), naive_offer(place, world))
                self.assertTrue(all(is_letter(letter) and goal(letter) == place for letter in letters))

    def test_refused(self):
        games = [(value, ("InvalidGame",)) for value in JUNK if not isinstance(value, Game)]
        check_order(self, pieces_of, (COINS, FIRST), [games, WORLDS])
        check_order(self, offer, (SETUP, 1, FIRST), [SETUPS, PLACES, WORLDS])
        self.assertEqual([error_of(offer, WATCHED, place, FIRST) for place in (0, 1, 2, 3, 4)],
                         [number_error(0), None, None, None, number_error(4)])


class GatheringTest(unittest.TestCase):
    def told(self, gathering):
        """All properties."""
        return (gathering.tick, gathering.many, gathering.pieces, gathering.lacks, len(gathering), gathering.is_whole())

    def test_nothing(self):
        gathering = Gathering(SETUP, 1)
        self.assertEqual((gathering.setup, gathering.place), (SETUP, 1))
        self.assertEqual(self.told(gathering), (None, 0, {}, (), 0, False))
        for call in (gathering.world, gathering.begun):
            self.assertEqual(error_of(call), ("Refused", repr(("pieces", ()))))
        with self.assertRaises(TypeError):
            list(gathering)

    def test_pieces(self):
        part = Gathering(SETUP, 1).heard(piece(4, 2, 3, "c"))
        self.assertEqual(self.told(part), (4, 3, {2: "c"}, (0, 1), 1, False))
        more = part.heard(piece(4, 0, 3, "a"))
        self.assertEqual((self.told(more), list(more.pieces)), ((4, 3, {0: "a", 2: "c"}, (1,), 2, False), [0, 2]))
        # Another place, a lesser tick, another number of pieces, an index that is there already.
        for letter in (piece(4, 1, 3, "b", 2), piece(5, 1, 3, "b", 2), piece(3, 1, 3, "b"), piece(3, 0, 1, "b"), piece(0, 0, 1), piece(4, 1, 2, "b"),
                       piece(4, 1, 4, "b"), piece(4, 3, 4, "b"), piece(4, 0, 3, "b"), piece(4, 2, 3, "c")):
            self.assertEqual((more.heard(letter), self.told(more.heard(letter))), (more, self.told(more)), letter)
        for letter in (piece(5, 1, 3, "b"), piece(5, 1, 2, "b")):
            self.assertEqual(self.told(more.heard(letter)), (5, letter[4], {1: "b"}, (0, 2) if letter[4] == 3 else (0,), 1, False))
        whole = more.heard(piece(4, 1, 3, "b"))
        self.assertEqual(self.told(whole), (4, 3, {0: "a", 1: "b", 2: "c"}, (), 3, True))
        self.assertEqual(self.told(whole.heard(piece(9, 0, 100))), (9, 100, {0: "x"}, tuple(range(1, 100)), 1, False))
        self.assertEqual((self.told(part), self.told(more)[2]), ((4, 3, {2: "c"}, (0, 1), 1, False), {0: "a", 2: "c"}))

    def test_changing_what_is_told_changes_nothing(self):
        part = Gathering(SETUP, 1).heard(piece(4, 2, 3, "c"))
        part.pieces.clear()
        self.assertEqual(part.pieces, {2: "c"})

    def test_equality(self):
        base = Gathering(SETUP, 1).heard(piece(4, 0, 3, "a")).heard(piece(4, 1, 3, "b"))
        self.assertTrue(base == Gathering(Setup(COINS), 1).heard(piece(4, 1, 3, "b")).heard(piece(4, 0, 3, "a")))
        for other in [*JUNK, Gathering(SETUP, 1), gathered(PAIR, 1, (piece(4, 0, 3, "a"), piece(4, 1, 3, "b"))),
                      gathered(SETUP, 1, (piece(5, 0, 3, "a"), piece(5, 1, 3, "b"))), gathered(SETUP, 1, (piece(4, 0, 4, "a"), piece(4, 1, 4, "b"))),
                      gathered(SETUP, 1, (piece(4, 0, 3, "a"),)), gathered(SETUP, 1, (piece(4, 0, 3, "a"), piece(4, 1, 3, "c")))]:
            self.assertTrue(base != other and not base == other)
        self.assertTrue(Gathering(WATCHED, 1) != Gathering(WATCHED, 2))

    def test_a_gathering_that_lacks(self):
        part = Gathering(SETUP, 1).heard(piece(4, 2, 5))
        for call in (part.world, part.begun):
            self.assertEqual(error_of(call), ("Refused", repr(("pieces", (0, 1, 3, 4)))))

    def test_texts_of_no_world(self):
        text = world_text(FIRST)
        for tick, told in ((0, "x"), (0, text + ";"), (1, text), (0, text[1:]), (0, "0 1 0;0 elf 1"), (0, "0 1 0;0 coin 1 2 3"), (0, "0 1 0;1 coin 1 2 3 4"),
                           (1, "0 1 0"), (0, "1 1 0"), (0, " ")):
            bad = Gathering(SETUP, 1).heard(piece(tick, 0, 1, told))
            self.assertIs(bad.is_whole(), True)
            for call in (bad.world, bad.begun):
                self.assertEqual(error_of(call), ("Refused", repr(("text",))), told)
        good = Gathering(SETUP, 1).heard(piece(0, 0, 1, text))
        self.assertEqual((good.world(), good.begun()), (FIRST, Timeline(SETUP, 1)))
        self.assertEqual(Gathering(SETUP, 1).heard(piece(3, 0, 1, "3 1 0")).world(), World(3, 1, 0, ()))

    def test_where_it_begins(self):
        row = ((2, -1), (2, -1), (0, -1))
        world = plain(COINS, row)
        for place, seat in ((1, 1), (2, None), (3, None)):
            line = gathered(WATCHED, place, offer(WATCHED, place, world)).begun()
            self.assertEqual((line, line.seat, line.base, line.settled, line.row), (Timeline(WATCHED, seat, world), seat, 3, 3, ()))

    def test_refused(self):
        check_order(self, Gathering, (SETUP, 1), [SETUPS, PLACES])
        gathering = Gathering(SETUP, 1)
        refused_all(self, gathering.heard, "InvalidLetter")
        for letter in OTHER_LETTERS:
            self.assertEqual(error_of(gathering.heard, letter), ("InvalidLetter",), letter)
        self.assertEqual([error_of(Gathering, WATCHED, place) for place in range(5)], [number_error(0), None, None, None, number_error(4)])


class GatheredTest(unittest.TestCase):
    def test_any_sequence(self):
        dice = Dice(162)
        for _ in range(60):
            game = dice.game()
            setup = dice.setup(game)
            if game.seats + setup.lookers == 1:
                continue
            place = dice.random.randint(1, game.seats + setup.lookers - 1)
            world = dice.world(game)
            letters = list(offer(setup, place, world))
            letters += [dice.some(*letters) for _ in range(5)]
            # Letters of offers of lesser ticks, and of other places, do not count.
            letters += [("piece", place, tick, 0, 1, "0 0 0") for tick in range(max(0, world.tick - 3), world.tick)]
            letters += [("piece", other, min(world.tick + 1, 10 ** 60 - 1), 0, 1, "0 0 0") for other in range(1, 6) if other != place]
            dice.random.shuffle(letters)
            gathering = gathered(setup, place, tuple(letters))
            self.assertEqual((gathering.tick, gathering.is_whole(), gathering.world()), (world.tick, True, world))
            one_by_one = Gathering(setup, place)
            for letter in letters:
                heard = one_by_one.heard(letter)
                self.assertEqual(heard.heard(letter), heard)
                one_by_one = heard
            self.assertEqual(one_by_one, gathering)

    def test_from_there_on(self):
        dice = Dice(163)
        for _ in range(40):
            game = dice.some(COINS, dice.game())
            setup = Setup(game, window=5, delay=2, starters=(0,), lookers=1)
            place = dice.random.randint(1, game.seats)
            row = dice.match_row(setup, 12)
            many = dice.random.randint(0, 8)
            line = gathered(setup, place, offer(setup, place, plain(game, row[:many]))).begun()
            self.assertEqual(line.settled, many)
            self.assertEqual(error_of(line.told, many + 1, row[many + 1:]), ("Refused", repr(("hole", many))))
            while line.settled < 12:
                first = dice.random.randint(0, line.settled)
                line = line.told(first, row[first:dice.random.randint(first, 12)])
                self.assertEqual((line.row, line.settled_world), (row[many:line.settled], plain(game, row[:line.settled])))

    def test_lengths(self):
        letters = (piece(4, 2, 3), piece(4, 1, 3))
        self.assertEqual(gathered(SETUP, 1, ()), Gathering(SETUP, 1))
        self.assertEqual(gathered(SETUP, 1, letters * 200).pieces, {1: "x", 2: "x"})
        self.assertEqual(error_of(gathered, SETUP, 1, letters * 200 + letters[:1]), ("InvalidLetter",))

    def test_refused(self):
        wrong = [(value, ("InvalidLetter",)) for value in JUNK if value != ()]
        wrong += [(value, ("InvalidLetter",)) for value in ([piece(4, 2, 3)], piece(4, 2, 3), *[(piece(4, 2, 3), letter) for letter in OTHER_LETTERS])]
        check_order(self, gathered, (SETUP, 1, (piece(4, 2, 3),)), [SETUPS, PLACES, wrong])


if __name__ == "__main__":
    unittest.main()
