"""Stage 13: the host."""

import unittest

from helper import (COINS, JUNK, PAIR, ROW, Dice, NaiveHost, check_line, check_order, error_of, naive_offer, number_error, orders_of,
                    told_of_host)
from settledplay.net.letters import is_letter
from settledplay.play.keys import Setup, is_row
from settledplay.play.step import plain
from settledplay.play.timeline import Timeline
from settledplay.rules.forms import Game
from settledplay.seat.host import Host, is_filled, is_silent
from settledplay.world.worlds import first_world

FOUR = Game(COINS.kinds, COINS.entries, COINS.start, arena=(12, 6), seats=4)
ALONE = Game(COINS.kinds, COINS.entries, COINS.start, arena=(12, 6), seats=1)
LATE = Setup(COINS, window=3, delay=1, patience=2, silence=3, starters=(0,), lookers=1)
SETUPS = [(value, ("InvalidSetup",)) for value in JUNK if not isinstance(value, Setup)]
ROWS = [(value, ("InvalidRow",)) for value in JUNK if value != ()]
ROWS += [(value, ("InvalidRow",)) for value in (((0,),), ((0, 128),), ((-1, 0),), ((0, -1), (0, 0)), [(0, 0)], ((0, 0), None), ((0, True),))]
SEATS = [(value, number_error(value)) for value in (-1, 2, True, False, None, "0", 10 ** 60, (0,), [1])]


def keys(place, first, *words):
    """A keys letter."""
    return ("keys", place, first, words, 0)


def after(host, *acts):
    """The host behind words of beats, letters, and "sure"."""
    for act in acts:
        if act == "sure":
            host = host.made_sure()
        else:
            host = host.beat(act) if isinstance(act, int) else host.heard(act)
    return host


class BeginningTest(unittest.TestCase):
    def test_behind_nothing(self):
        host = Host(PAIR)
        self.assertEqual(told_of_host(host), ((), (), {}, {}, {}, 0, ()))
        self.assertEqual((host.setup, host.timeline), (PAIR, Timeline(PAIR, 0)))
        self.assertEqual(Host(LATE).mail(), ())

    def test_made_of_a_row(self):
        dice = Dice(131)
        for _ in range(30):
            setup = dice.small_setup(dice.some(COINS, FOUR))
            row = dice.match_row(setup, dice.random.randint(0, 9))
            host = Host.of_row(setup, row)
            self.assertEqual(told_of_host(host), (row, row, {}, {}, {}, 0, ()))
            self.assertEqual(host.timeline, Timeline(setup, 0, plain(setup.game, row)))
            self.assertEqual((host.setup, host.timeline.base, host.timeline.own), (setup, len(row), {}))
            self.assertEqual(host == Host(setup), row == ())
        host = Host.of_row(PAIR, ROW)
        self.assertEqual(host.mail(), (("rows", 1, 0, ROW),))
        self.assertEqual(Host.of_row(PAIR, ((2, 64),) * 3).beat(0).closed[3:], ((0, -1), (0, -1)))
        self.assertIs(type(Host(PAIR).of_row(PAIR, ROW)), Host)

    def test_refused(self):
        check_order(self, Host, (PAIR,), [SETUPS])
        check_order(self, Host.of_row, (PAIR, ROW), [SETUPS, ROWS])
        words = [(value, ("InvalidWord",)) for value in [value for value in JUNK] + [64, -1, True, "0", None, (0,)]]
        check_order(self, Host(PAIR).beat, (0,), [words])
        # Also by one whose window is full.
        check_order(self, after(Host(PAIR), 0, 0, 0).beat, (0,), [words])
        letters = [*JUNK, ("rows", 1, 0, ()), ("piece", 1, 0, 0, 1, "x"), keys(2, 0), ("word", 2, "come"), ("word", 2, "go"), keys(0, 0), ("word", 0, "go"),
                   keys(1, -1), keys(1, 0, 64), ("word", 1, "stay"), keys(True, 0), list(keys(1, 0))]
        check_order(self, Host(PAIR).heard, (keys(1, 0),), [[(value, ("InvalidLetter",)) for value in letters]])
        self.assertEqual([error_of(Host(LATE).heard, keys(place, 0)) for place in (1, 2, 3)], [None, None, ("InvalidLetter",)])
        with self.assertRaises(TypeError):
            list(Host(PAIR))

    def test_equality(self):
        base = after(Host(PAIR), 2, keys(1, 0, 5))
        same = after(Host(PAIR), 2, keys(1, 0, 5), keys(1, 0, 6))
        self.assertTrue(base == same and not base != same)
        for other in [*JUNK, Host(PAIR), after(Host(PAIR), 3, keys(1, 0, 5)), after(Host(PAIR), 2, keys(1, 0, 6)), after(Host(PAIR), 2, keys(1, 1, 5)),
                      after(Host(PAIR), 2, keys(1, 0, 5), 2), after(Host(PAIR), 2, keys(1, 0, 5), ("word", 1, "go")), after(Host(PAIR), 2, keys(1, 0, 5), "sure", 2)]:
            self.assertTrue(base != other and not base == other)
        waits = after(Host(LATE), keys(1, 0), 0)
        self.assertTrue(waits != after(Host(LATE), keys(2, 0), 0) and waits != after(Host(LATE), 0) and waits != after(waits, ("word", 2, "come")))

    def test_changing_what_is_told_changes_nothing(self):
        host = after(Host(LATE), ("word", 1, "come"), ("word", 2, "come"), keys(2, 0), keys(1, 3, 4), ("word", 1, "come"))
        told = told_of_host(host)
        self.assertEqual(told[2:5], ({1: {3: 4}}, {1: 0, 2: 0}, {1: first_world(COINS)}))
        host.waiting[1].clear()
        host.waiting.clear()
        host.marks.clear()
        host.offers.clear()
        self.assertEqual(told_of_host(host), told)


class WordsTest(unittest.TestCase):
    def test_the_first_word_counts(self):
        host = after(Host(PAIR), keys(1, 1, 5, 6), keys(1, 0, 7, 8, 9, 1))
        self.assertEqual(host.waiting, {1: {0: 7, 1: 5, 2: 6, 3: 1}})
        self.assertEqual(orders_of(host.waiting), [(1, [(0, 7), (1, 5), (2, 6), (3, 1)])])
        self.assertEqual(after(host, keys(1, 0, 9, 9)), host)

    def test_a_word_for_a_closed_tick_is_dropped(self):
        host = after(Host(PAIR), keys(1, 0, 7, 8), 2)
        self.assertEqual((host.closed, host.waiting), (((2, 7), (2, 8)), {}))
        self.assertEqual(after(host, keys(1, 0, 9, 9)), host)
        self.assertEqual(after(host, keys(1, 0, 9, 9, 3)).waiting, {1: {2: 3}})
        # A filled tick is closed, too.
        filled = after(Host(PAIR), 2, 2)
        self.assertEqual((filled.closed, after(filled, keys(1, 0, 9, 4)).waiting), (((2, 64),), {1: {1: 4}}))

    def test_words_far_ahead_wait(self):
        host = after(Host(PAIR), keys(1, 9, 7), keys(1, 0, 1), 2, keys(1, 10 ** 60 - 1, 3))
        self.assertEqual((host.closed, host.waiting), (((2, 1),), {1: {9: 7, 10 ** 60 - 1: 3}}))

    def test_a_seat_that_is_out_has_no_words(self):
        host = after(Host(PAIR), keys(1, 5, 7), 2, ("word", 1, "go"), 2)
        self.assertEqual((host.closed, host.waiting, host.goers), (((2, -1), (2, -1), (2, -1)), {}, ()))
        heard = after(host, keys(1, 3, 4))
        self.assertEqual((heard.waiting, heard.marks, after(heard, 2).closed[3:]), ({}, {1: 0}, ((2, -1),)))

    def test_words_of_a_looker_on_do_not_wait(self):
        host = after(Host(LATE), keys(2, 0, 4, 4), 0)
        self.assertEqual((host.waiting, host.marks, host.closed), ({}, {2: 0}, ((0, -1), (0, -1))))

    def test_a_seat_that_is_ahead_comes_with_a_word_for_the_next_tick(self):
        without = after(Host(LATE), keys(1, 3, 5), 1)
        self.assertEqual((without.closed, without.waiting), (((1, -1), (1, -1)), {1: {3: 5}}))
        comes = after(without, 1, 1)
        self.assertEqual((comes.closed[2:], comes.waiting), (((1, -1), (1, 5)), {}))
        self.assertEqual(after(Host(LATE), keys(1, 0, 5), 1).closed, ((1, 5),))
        # "go" of one that is ahead changes nothing.
        self.assertEqual(after(without, ("word", 1, "go")), without)

    def test_letters_of_other_seats(self):
        setup = Setup(FOUR, window=3, delay=0, patience=2, starters=(0, 1, 2))
        host = after(Host(setup), keys(2, 0, 5), 1)
        self.assertEqual((host.closed, host.waiting), ((), {2: {0: 5}}))
        host = after(host, keys(1, 0, 6), keys(3, 0, 9), 1)
        self.assertEqual((host.closed, host.waiting, host.marks), (((1, 6, 5, 9),), {}, {1: 0, 2: 0, 3: 0}))


class ClosingTest(unittest.TestCase):
    def test_patience(self):
        for patience in (1, 2, 3, 20):
            setup = Setup(COINS, window=12, delay=0, patience=patience, silence=20)
            host = Host(setup)
            for beat in range(1, patience):
                host = host.beat(1)
                self.assertEqual((host.idle, host.closed), (beat, ()))
                # A word that waits for no next tick changes no count.
                host = host.heard(keys(1, 50, 3))
            host = host.beat(1)
            self.assertEqual((host.idle, host.closed), (0, ((1, 64),)))
            if patience > 1:
                host = host.beat(1)
                self.assertEqual((host.idle, host.closed), (1, ((1, 64),)))
                host = after(host, keys(1, 1, 9), 1)
                self.assertEqual((host.idle, host.closed), (0, ((1, 64), (1, 9))))

    def test_what_is_filled(self):
        setup = Setup(COINS, window=12, delay=0, patience=1)
        host = after(Host(setup), 1, keys(1, 1, 63), 2, 3, 4)
        self.assertEqual(host.closed, ((1, 64), (2, 63), (3, 127), (4, 127)))

    def test_further_ticks_behind_a_filling(self):
        setup = Setup(COINS, window=12, delay=4, patience=2)
        host = after(Host(setup), keys(1, 1, 7, 8), 1, 1)
        self.assertEqual((host.closed, host.waiting, host.idle), (((1, 64), (1, 7), (1, 8)), {}, 0))

    def test_without_a_word_of_the_seat_0(self):
        setup = Setup(COINS, window=1, delay=0, patience=1)
        host = after(Host(setup), keys(1, 0, 5, 6, 7), 1)
        self.assertEqual((host.closed, host.timeline.own), (((1, 5),), {0: 1}))
        waits = after(host, 2, 3)
        self.assertEqual((waits.closed, waits.idle, waits.timeline.own), (((1, 5),), 2, {0: 1}))
        self.assertEqual(after(waits, "sure").idle, 2)
        on = after(waits, "sure", 4)
        self.assertEqual((on.closed, on.idle), (((1, 5), (4, 6)), 0))

    def test_silence(self):
        for silence in (1, 2, 3, 20):
            setup = Setup(COINS, window=12, delay=8, patience=1, silence=silence)
            row = ((0, 5),) + ((0, 69),) * (silence - 1)
            self.assertIs(is_silent(setup, row, 1), False)
            self.assertEqual(after(Host.of_row(setup, row), 1).closed[silence:], ((1, 69), (1, -1), (1, -1), (1, -1), (1, -1), (1, -1), (1, -1), (1, -1), (1, -1)))
            row += ((0, 69),)
            self.assertIs(is_silent(setup, row, 1), True)
            # A silent seat is out, even if it has a word.
            host = after(Host.of_row(setup, row), keys(1, silence + 1, 3, 3, 3))
            self.assertEqual(host.waiting, {1: {silence + 1: 3, silence + 2: 3, silence + 3: 3}})
            out = after(host, 1)
            self.assertEqual((out.closed[silence + 1:], out.waiting), (((1, -1),) * 9, {}))
            self.assertIs(is_silent(setup, row + ((0, 4),), 1), False)

    def test_going(self):
        host = after(Host(PAIR), 1, ("word", 1, "go"))
        self.assertEqual((host.goers, after(host, ("word", 1, "go")).goers), ((1,), (1,)))
        # It is out at the next tick that is closed, whatever it said for it.
        gone = after(host, keys(1, 0, 5), 1)
        self.assertEqual((gone.closed, gone.goers, gone.waiting), (((1, -1),) * 3, (), {}))
        self.assertEqual(after(gone, ("word", 1, "go")), gone)
        setup = Setup(FOUR, window=3, delay=0, patience=5)
        two = after(Host(setup), ("word", 3, "go"), ("word", 1, "go"), ("word", 2, "come"))
        self.assertEqual((two.goers, two.offers), ((1, 3), {}))
        self.assertEqual((after(two, 1).goers, after(two, 1, keys(2, 0, 3), 1).closed), ((1, 3), ((1, -1, 3, -1),)))

    def test_alone(self):
        host = after(Host(Setup(ALONE, window=2, delay=1)), 1, 2)
        self.assertEqual((host.closed, host.idle, host.mail()), (((1,), (1,), (2,)), 0, ()))
        # Its window is full; nothing is filled for it.
        self.assertEqual((after(host, 3).closed, after(host, 3).idle, after(host, 3, "sure", 3).closed[3:]), (host.closed, 1, ((3,),)))

    def test_filled_and_silent(self):
        row = ((5, 63), (64, 64), (127, -1))
        self.assertEqual([is_filled(PAIR, row, tick, seat) for seat in (0, 1) for tick in (0, 1, 2)], [False, True, True, False, True, False])
        ticks = [(value, number_error(value)) for value in (-1, 3, True, False, None, "0", 10 ** 60, (0,), [1])]
        check_order(self, is_filled, (PAIR, row, 0, 1), [SETUPS, ROWS, ticks, SEATS])
        self.assertEqual(error_of(is_filled, PAIR, (), 0, 0), number_error(0))
        for row, silent in (((), False), (((0, 64),) * 2, False), (((0, 64),) * 3, True), (((0, 64),) * 9, True), (((0, 63), *((0, 64),) * 3), True),
                            (((0, 64), (0, 64), (0, 63), (0, 64)), False), (((0, 64),) * 3 + ((0, -1),), False), (((0, 127), (0, 65), (0, 64)), True)):
            self.assertIs(is_silent(PAIR, row, 1), silent, row)
        self.assertIs(is_silent(PAIR, ((64, 0),) * 3, 0), False)
        check_order(self, is_silent, (PAIR, ROW, 1), [SETUPS, ROWS, SEATS])


class LettersTest(unittest.TestCase):
    def test_marks(self):
        host = Host.of_row(PAIR, ROW)
        self.assertEqual(host.marks, {})
        for first, mark in ((0, 0), (2, 2), (3, 3), (4, 3), (10 ** 60 - 1, 3)):
            heard = after(host, keys(1, first))
            self.assertEqual((heard.marks, heard.mail()), ({1: mark}, (("rows", 1, mark, ROW[mark:]),)))
            self.assertEqual(after(heard, keys(1, 1)).marks, {1: max(1, mark)})
        # A mark is at most the length of the settled row as the letter was heard.
        more = after(host, keys(1, 9), keys(1, 3, 5), 1, "sure")
        self.assertEqual((len(more.row), more.marks, after(more, keys(1, 9)).marks), (4, {1: 3}, {1: 4}))
        # Closed ticks that are not settled do not count.
        unsure = after(host, keys(1, 3, 5), 1, keys(1, 4))
        self.assertEqual((len(unsure.closed), unsure.marks), (4, {1: 3}))

    def test_rows_letters(self):
        for setup in (Setup(COINS, window=1, delay=0), Setup(COINS, window=3, delay=1), Setup(COINS, window=12, delay=8)):
            most = 2 * setup.window + setup.delay
            for length in (0, 1, most - 1, most, most + 1, 2 * most, 2 * most + 1):
                row = tuple((tick % 64, tick % 3) for tick in range(length))
                host = Host.of_row(setup, row)
                self.assertEqual(host.mail(), (("rows", 1, 0, row[:most]),))
                for mark in (0, 1, most, length):
                    letter = after(host, keys(1, mark)).mail()[0]
                    mark = min(mark, length)
                    self.assertEqual(letter, ("rows", 1, mark, row[mark:mark + most]))
                    self.assertTrue(is_letter(letter))

    def test_only_what_is_settled(self):
        host = after(Host(PAIR), keys(1, 0, 5, 6), 1)
        self.assertEqual((host.closed, host.row, host.mail()), (((1, 5), (1, 6)), (), (("rows", 1, 0, ()),)))
        sure = after(host, "sure")
        self.assertEqual((sure.row, sure.timeline.row, sure.mail()), (host.closed, host.closed, (("rows", 1, 0, host.closed),)))

    def test_to_whom(self):
        setup = Setup(FOUR, window=2, delay=0, patience=1, starters=(0, 2), lookers=2)
        host = Host(setup)
        self.assertEqual([letter[:2] for letter in host.mail()], [("rows", 2)])
        heard = after(host, keys(5, 0), keys(1, 7))
        self.assertEqual([letter[:2] for letter in heard.mail()], [("rows", 1), ("rows", 2), ("rows", 5)])
        come = after(heard, ("word", 4, "come"), ("word", 1, "come"), ("word", 2, "come"))
        self.assertEqual([letter[:2] for letter in come.mail()], [("piece", 1), ("rows", 2), ("piece", 4), ("rows", 5)])
        # One that is out, and was heard, still gets letters; one that was not heard gets none.
        out = after(come, ("word", 2, "go"), 1)
        self.assertEqual([letter[:2] for letter in out.mail()], [("piece", 1), ("piece", 4), ("rows", 5)])
        self.assertEqual([letter[:2] for letter in after(out, keys(2, 0)).mail()], [("piece", 1), ("rows", 2), ("piece", 4), ("rows", 5)])

    def test_offers(self):
        host = Host.of_row(LATE, ((2, -1),) * 3)
        world = plain(COINS, ((2, -1),) * 3)
        for place in (1, 2):
            asked = after(host, ("word", place, "come"))
            self.assertEqual((asked.offers, asked.mail()), ({place: world}, tuple(naive_offer(place, world))))
            # It keeps to this world, whatever is settled, and however often "come" is heard.
            later = after(asked, 1, "sure", ("word", place, "come"))
            self.assertEqual((len(later.row), later.offers, later.mail()), (5, {place: world}, tuple(naive_offer(place, world))))
            begun = after(later, keys(place, 3))
            self.assertEqual((begun.offers, begun.mail()), ({}, (("rows", place, 3, later.row[3:]),)))
            again = after(begun, ("word", place, "come"))
            self.assertEqual((again.offers, again.marks), ({place: plain(COINS, later.row)}, {place: 3}))
            self.assertEqual(after(later, ("word", place, "go")), later)
        both = after(host, ("word", 2, "come"), ("word", 1, "come"))
        self.assertEqual(list(both.offers), [1, 2])
        self.assertEqual(after(both, keys(1, 0)).offers, {2: world})

    def test_the_offered_world_is_settled(self):
        host = after(Host(LATE), 2)
        self.assertEqual((len(host.closed), host.heard(("word", 1, "come")).offers), (2, {1: first_world(COINS)}))

    def test_come_of_one_that_is_in(self):
        host = after(Host(PAIR), 1)
        self.assertEqual(after(host, ("word", 1, "come")), host)
        out = after(host, ("word", 1, "go"), 1, "sure")
        self.assertEqual(after(out, ("word", 1, "come")).offers, {1: plain(COINS, out.row)})


class RandomTest(unittest.TestCase):
    """A host beside a naive one."""

    def letter(self, dice, setup, host):
        """Some letter, most often one that counts."""
        place = dice.random.randint(1, setup.seats + setup.lookers - 1)
        if dice.random.random() < 0.3:
            return ("word", place, dice.some("come", "come", "go"))
        first = max(0, len(host.closed) + dice.some(-5, -2, -1, 0, 0, 0, 1, 3))
        return keys(place, first, *[dice.random.randint(0, 3) for _ in range(dice.some(0, 1, 2, 4, 20))])

    def test_random_hosts(self):
        dice = Dice(133)
        filled = 0
        for _ in range(80):
            setup = dice.small_setup(dice.some(COINS, FOUR, ALONE, dice.game()))
            host, naive, said = Host(setup), NaiveHost(setup, {}), {}
            for _ in range(40):
                what = dice.random.random()
                if what < 0.4:
                    word = dice.random.randint(0, 3)
                    self.beat(naive, word, said)
                    host = host.beat(word)
                    # Some seat that is in lacks a word for the next tick.
                    self.assertIn(None, [naive.entry(seat, False) for seat in range(setup.seats)])
                elif what < 0.55:
                    host = host.made_sure()
                    naive.tell()
                elif what < 0.58:
                    row = dice.some(host.row, host.closed)
                    host, said = Host.of_row(setup, row), {}
                    naive.begin(row, plain(setup.game, row))
                elif setup.seats + setup.lookers > 1:
                    letter = self.letter(dice, setup, host)
                    if letter[0] == "keys" and letter[1] < setup.seats and naive.stay(letter[1]) != "out":
                        for tick, word in enumerate(letter[3], letter[2]):
                            if tick >= len(host.closed):
                                said.setdefault((letter[1], tick), word)
                    host = host.heard(letter)
                    naive.hear(letter)
                self.check(host, naive)
            filled += sum(entry >= 64 for joint in host.closed for entry in joint)
        self.assertGreater(filled, 100)

    def beat(self, naive, word, said):
        """A beat of the naive host; what it closes was said ahead of it."""
        many = len(naive.closed)
        naive.beat(word)
        for tick in range(many, len(naive.closed)):
            for seat, entry in enumerate(naive.closed[tick]):
                if seat and 0 <= entry < 64:
                    self.assertEqual(said[seat, tick], entry)

    def check(self, host, naive):
        self.assertEqual(told_of_host(host), naive.told())
        self.assertEqual([orders_of(part) for part in told_of_host(host)], [orders_of(part) for part in naive.told()])
        self.assertEqual(host.mail(), naive.mail())
        self.assertEqual(host.closed[:len(host.row)], host.row)
        self.assertTrue(is_row(host.setup, host.closed) and is_row(host.setup, host.row))
        self.assertEqual(host.timeline.row, host.row[host.timeline.base:])
        self.assertEqual(host.timeline.settled, len(host.row))
        check_line(self, host.timeline, naive.line)


if __name__ == "__main__":
    unittest.main()
