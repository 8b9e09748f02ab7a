"""Stage 10: key words, setups and rows."""

import re
import unittest
from itertools import product

from helper import COINS, JUNK, PAIR, Dice, check_order, error_of, naive_used, number_error, strict, whole_choices
from settledplay.play.keys import (AWAY, FILLED, MAX_DELAY, MAX_WINDOW, MOST_WORD, Setup, first_change, guess, heard, is_row, joined, stay,
                                   used)
from settledplay.rules.forms import Game

FOUR = Game(COINS.kinds, COINS.entries, (), arena=(9, 9), seats=4)
ALONE = Game(COINS.kinds, COINS.entries, (), arena=(9, 9), seats=1)
# In PAIR both seats are in from the beginning; in LATE the seat 1 comes.
LATE = Setup(COINS, starters=(0,))
ROW = ((0, 3), (65, 67), (2, -1))
SETUPS = [(value, ("InvalidSetup",)) for value in JUNK if not isinstance(value, Setup)]
WRONG_JOINTS = [*JUNK, (0,), (0, 0, 0), [0, 0], (0, 128), (0, -2), (-1, 0), (-1, -1), (True, 0), (0, None), (0, 10 ** 60)]
WRONG_ROWS = [value for value in JUNK if value != ()] + [((0, 0), value) for value in WRONG_JOINTS] + [[(0, 0)], (0, 0)]
WRONG_ROWS += [((0, -1), (0, 0)), ((0, 1), (0, -1), (0, 1)), ((0, 1), (0, -1), (0, -1), (0, 64))]
ROWS = [(value, ("InvalidRow",)) for value in WRONG_ROWS]
WORDS = [(value, ("InvalidRow",)) for value in WRONG_ROWS[:-3]]
SEATS = [(value, number_error(value)) for value in (-1, 2, True, False, "0", 10 ** 60, (0,))]
NONE = [(None, number_error(None))]
OWNS = [(value, ("InvalidOperation",)) for value in [
    *[value for value in JUNK if value != {}], {-1: 0}, {0: 64}, {0: -1}, {True: 0}, {0: True}, {0: False}, {0: None}, {None: 0}, {"0": 0}, {0: 1, 1: 64},
    {10 ** 60: 0}, {(0,): 0}, [(0, 1)], ((0, 1),)]]


def is_match_row(setup, value):
    """Rows as they are told, seat by seat, by letters: `-` for not in, `x` for in."""
    for seat in range(setup.seats):
        letters = "".join("-" if joint[seat] == -1 else "x" for joint in value)
        form = "x*" if seat == 0 else "x*-*" if seat in setup.starters else "-*x*-*"
        if not re.fullmatch(form, letters):
            return False
    return True


def rows_of(setup, most, entries):
    """All rows up to a length, with these entries for each seat."""
    for many in range(most + 1):
        for row in product(product(entries, repeat=setup.seats), repeat=many):
            if is_match_row(setup, row):
                yield row


class SetupTest(unittest.TestCase):
    def test_constants(self):
        self.assertEqual((AWAY, MOST_WORD, FILLED, MAX_WINDOW, MAX_DELAY), (-1, 63, 64, 12, 8))

    def test_defaults(self):
        setup = Setup(FOUR)
        self.assertEqual((setup.window, setup.delay, setup.spacing, setup.patience, setup.silence, setup.lookers, setup.seats), (4, 2, 2, 3, 6, 0, 4))
        self.assertEqual((setup.starters, setup.guesses, setup.game), ((0, 1, 2, 3), tuple(range(64)), FOUR))
        told = Setup(FOUR, window=5, delay=1, spacing=3, patience=4, silence=2, starters=(0, 2), lookers=2, guesses=(7,) * 64)
        self.assertEqual((told.window, told.delay, told.spacing, told.patience, told.silence, told.lookers, told.seats), (5, 1, 3, 4, 2, 2, 4))
        self.assertEqual((told.starters, told.guesses), ((0, 2), (7,) * 64))
        self.assertEqual((PAIR.seats, Setup(ALONE).starters), (2, (0,)))

    def test_bounds(self):
        for name, low, high in (("window", 1, 12), ("delay", 0, 8), ("spacing", 1, 6), ("patience", 1, 20), ("silence", 1, 20), ("lookers", 0, 2)):
            for value in (low, high):
                self.assertEqual(getattr(Setup(COINS, **{name: value}), name), value)
            for value in (low - 1, high + 1, -1, True, False, None, "2", 10 ** 60, (1,), [2], COINS):
                self.assertEqual(error_of(Setup, COINS, **{name: value}), ("InvalidSetup",), (name, value))

    def test_starters(self):
        for value in ((0,), (0, 1), (0, 3), (0, 1, 2, 3), (0, 2, 3), None):
            self.assertIsNone(error_of(Setup, FOUR, starters=value))
        for value in ((), (1,), (1, 2), (1, 0), (0, 0), (0, 2, 1), (0, 4), (-1, 0), (False, 1), (0, True), [0], 0, "0", {0: 0}, (0, None), (0, (1,)), (0, 10 ** 60)):
            self.assertEqual(error_of(Setup, FOUR, starters=value), ("InvalidSetup",), value)
        self.assertEqual(error_of(Setup, ALONE, starters=(0, 1)), ("InvalidSetup",))

    def test_guesses(self):
        for value in (tuple(range(64)), (0,) * 64, (63,) * 64):
            self.assertEqual(Setup(COINS, guesses=value).guesses, value)
        for value in ((0,) * 63, (0,) * 65, (), [0] * 64, (64,) + (0,) * 63, (0,) * 63 + (-1,), (True,) + (0,) * 63, (0,) * 63 + (None,), 0, "0" * 64):
            self.assertEqual(error_of(Setup, COINS, guesses=value), ("InvalidSetup",), value)

    def test_no_game(self):
        for value in JUNK:
            if value is not COINS:
                self.assertEqual(error_of(Setup, value), ("InvalidGame",))
                self.assertEqual(error_of(Setup, value, window=0), ("InvalidGame",))

    def test_equal_setups(self):
        self.assertTrue(Setup(COINS) == Setup(COINS, starters=(0, 1), guesses=tuple(range(64)), window=4))
        kinds = [dict(window=5), dict(delay=3), dict(spacing=3), dict(patience=4), dict(silence=7), dict(starters=(0,)), dict(lookers=1),
                 dict(guesses=(0,) * 64), {}]
        setups = [Setup(COINS, **kind) for kind in kinds] + [Setup(FOUR)]
        for i, one in enumerate(setups):
            for k, other in enumerate(setups):
                self.assertEqual((one == other, one != other), (i == k, i != k))
            for value in JUNK:
                self.assertIs(one == value, False)


class RowsTest(unittest.TestCase):
    def test_all_short_rows(self):
        for setup in (PAIR, LATE):
            rows = set(rows_of(setup, 4, (-1, 5)))
            for many in range(5):
                for row in product(product((-1, 5), repeat=2), repeat=many):
                    self.assertIs(is_row(setup, row), row in rows)
        self.assertTrue(is_row(LATE, ((0, -1), (127, 64), (64, 63), (63, -1))))
        self.assertTrue(is_row(Setup(ALONE), ((0,), (64,)) * 100))

    def test_wrong_rows(self):
        for value in WRONG_ROWS:
            self.assertIs(is_row(PAIR, value), False, value)
        for value, error in SETUPS:
            self.assertEqual(error_of(is_row, value, ROW), error)

    def test_heard(self):
        self.assertEqual(heard((-1, 0, 63, 64, 127, 70)), (-1, 0, 63, 0, 63, 6))
        self.assertEqual((heard(()), heard((64,) * 9)), ((), (0,) * 9))
        for value in [value for value in JUNK if value not in ((), (1,))] + [(128,), (-2,), (True,), (0, None), [0], (0, "1"), (10 ** 60,), 5]:
            self.assertEqual(error_of(heard, value), ("InvalidRow",), value)

    def test_stays(self):
        self.assertEqual([stay(setup, (), 1) for setup in (PAIR, LATE)], ["in", "ahead"])
        for setup in (PAIR, LATE):
            for row in rows_of(setup, 4, (-1, 0, 65)):
                self.assertEqual(stay(setup, row, 0), "in")
                column = [1 in setup.starters, *[joint[1] != -1 for joint in row]]
                self.assertEqual(stay(setup, row, 1), "in" if column[-1] else "out" if any(column) else "ahead")

    def test_guesses(self):
        table = tuple((at * 7 + 3) % 64 for at in range(64))
        for setup in (PAIR, LATE, Setup(COINS, guesses=table), Setup(COINS, guesses=table, starters=(0,))):
            for row in rows_of(setup, 3, (-1, 0, 63, 64, 127, 70)[::1 if setup is PAIR else 2]):
                for seat in (0, 1):
                    last = row[-1][seat] & 63 if row else 0
                    is_in = stay(setup, row, seat) == "in"
                    self.assertEqual(guess(setup, row, seat), setup.guesses[last] if is_in else -1)
        self.assertEqual(guess(Setup(COINS, guesses=table), (), 1), 3)

    def test_used(self):
        dice = Dice(121)
        for _ in range(150):
            setup = dice.setup(dice.some(COINS, FOUR, ALONE))
            row = dice.match_row(setup, dice.random.randint(0, 6))
            own = dice.own_words(dice.random.randint(0, 6), 5)
            for seat in (None, *range(setup.seats)):
                for tick in (*range(10), 10 ** 59):
                    found = used(setup, row, seat, own, tick)
                    self.assertEqual(strict(found), strict(naive_used(setup, row, seat, own, tick)))

    def test_used_by_hand(self):
        own = {3: 9, 4: 8, 0: 7}
        self.assertEqual([used(PAIR, ROW, 0, own, tick) for tick in range(6)], [(0, 3), (1, 3), (2, -1), (9, -1), (8, -1), (0, -1)])
        self.assertEqual([used(PAIR, ROW, 1, own, tick) for tick in range(6)], [(0, 3), (1, 3), (2, -1), (2, -1), (2, -1), (2, -1)])
        self.assertEqual([used(PAIR, ROW[:2], 1, own, tick) for tick in range(1, 6)], [(1, 3), (1, 0), (1, 9), (1, 8), (1, 0)])
        self.assertEqual([used(LATE, (), seat, own, 3) for seat in (0, 1, None)], [(9, -1), (0, -1), (0, -1)])
        # The sequence of the dict has no effect, and the dict stays as it is.
        self.assertEqual(used(PAIR, ROW, 0, {4: 8, 0: 7, 3: 9}, 4), (8, -1))
        self.assertEqual(own, {3: 9, 4: 8, 0: 7})

    def test_refused(self):
        check_order(self, stay, (PAIR, ROW, 1), (SETUPS, ROWS, SEATS + NONE))
        check_order(self, guess, (PAIR, ROW, 0), (SETUPS, ROWS, SEATS + NONE))
        for seat in (None, 0, 1):
            check_order(self, used, (PAIR, ROW, seat, {0: 1, 3: 63}, 5), (SETUPS, ROWS, SEATS, OWNS, whole_choices()))
        self.assertIsNone(error_of(used, PAIR, (), None, {}, 10 ** 60 - 1))


class JoinedTest(unittest.TestCase):
    def test_joined_by_hand(self):
        for first, words, row in ((0, (), ROW), (3, (), ROW), (1, (), ROW), (3, ((1, -1),), (*ROW, (1, -1))), (0, ROW, ROW), (1, ROW[1:2], ROW),
                                  (2, ((2, -1), (5, -1), (6, -1)), (*ROW, (5, -1), (6, -1))), (0, (*ROW, (5, -1)), (*ROW, (5, -1)))):
            self.assertEqual(joined(PAIR, ROW, first, words), row)
        self.assertEqual(joined(LATE, (), 0, ((1, -1), (1, 0))), ((1, -1), (1, 0)))

    def test_holes(self):
        for first in (4, 5, 10 ** 59):
            for words in ((), ((0, 0),), ((0, -1),)):
                self.assertEqual(error_of(joined, PAIR, ROW, first, words), ("Refused", repr(("hole", 3))))
        self.assertEqual(error_of(joined, PAIR, (), 1, ()), ("Refused", repr(("hole", 0))))

    def test_unlike_ones(self):
        for first, words, tick in ((0, ((1, 3),), 0), (0, ((0, 3), (1, 3), (2, -1)), 1), (1, ((65, 67), (2, 0), (7, 7)), 2), (2, ((66, -1),), 2),
                                   (0, ((0, 67), (0, 0)), 0), (1, ((65, 67), (3, -1), (0, 0)), 2)):
            self.assertEqual(error_of(joined, PAIR, ROW, first, words), ("Refused", repr(("unlike", tick))))

    def test_no_row_comes(self):
        for row, first, words in ((ROW, 3, ((0, 0),)), (ROW, 2, ((2, -1), (0, -1), (0, 5))), ((), 0, ((0, -1), (0, 1)))):
            self.assertEqual(error_of(joined, PAIR, row, first, words), ("InvalidRow",))
        self.assertEqual(error_of(joined, LATE, ((0, 1),), 1, ((0, -1), (0, 1))), ("InvalidRow",))

    def test_any_sequence_any_number_of_times(self):
        dice = Dice(122)
        for _ in range(150):
            setup = dice.setup(dice.some(COINS, FOUR, ALONE))
            whole = dice.match_row(setup, dice.random.randint(0, 9))
            begin = dice.random.randint(0, len(whole))
            row, reached = whole[:begin], begin
            for _ in range(12):
                first = dice.random.randint(0, len(whole))
                words = whole[first:dice.random.randint(first, len(whole))]
                if first > reached:
                    self.assertEqual(error_of(joined, setup, row, first, words), ("Refused", repr(("hole", reached))))
                    continue
                for _ in range(dice.some(1, 1, 2)):
                    row = joined(setup, row, first, words)
                reached = max(reached, first + len(words))
                self.assertEqual(row, whole[:reached])

    def test_refused(self):
        check_order(self, joined, (PAIR, ROW, 3, ((0, -1),)), (SETUPS, ROWS, whole_choices(), WORDS))
        # Words that are none are told ahead of a hole.
        self.assertEqual(error_of(joined, PAIR, ROW, 9, ((-1, 0),)), ("InvalidRow",))


class FirstChangeTest(unittest.TestCase):
    def test_the_first_change(self):
        dice = Dice(123)
        found = []
        for _ in range(400):
            setup = dice.setup(dice.some(COINS, FOUR, ALONE))
            later = dice.match_row(setup, dice.random.randint(0, 6))
            row = later[:dice.random.randint(0, len(later))]
            own = dice.own_words(0, 10)
            for seat in (None, *range(setup.seats)):
                unlike = [tick for tick in range(14) if naive_used(setup, row, seat, own, tick) != naive_used(setup, later, seat, own, tick)]
                self.assertTrue(not unlike or unlike[0] >= len(row))
                ends = [tick for tick in unlike if tick >= len(later)]
                self.assertIn(len(ends), (0, 14 - len(later)))
                for stop in (0, len(row), len(later), len(later) + 1, 14):
                    least = [tick for tick in unlike if tick < stop]
                    self.assertEqual(first_change(setup, row, later, seat, own, stop), least[0] if least else None)
                found.append((bool(unlike), bool(ends)))
        self.assertEqual(len(set(found)), 3)

    def test_far_bounds(self):
        far = 10 ** 60 - 1
        self.assertEqual(first_change(PAIR, ROW[:2], ROW, None, {}, far), 2)
        self.assertIsNone(first_change(PAIR, ROW, ROW, 1, {0: 1}, far))
        self.assertIsNone(first_change(PAIR, ((0, 0),), ((0, 0), (0, 0)), 0, {}, far))
        # A seat that goes with its last word: its words are guessed no more from the end of the later row on.
        self.assertEqual(first_change(PAIR, ((0, 0),), ((0, 0), (5, 0)), 0, {1: 5, 2: 3}, far), None)
        self.assertEqual(first_change(PAIR, ((0, 0),), ((0, 0), (5, 0)), None, {}, far), 1)
        self.assertEqual(first_change(LATE, ((0, -1),), ((0, -1), (0, 4)), 1, {5: 3}, far), 1)
        self.assertEqual(first_change(PAIR, ((0, 0),), ((0, 0), (5, 0)), 0, {}, 1), None)

    def test_a_change_at_the_end_of_the_later_row(self):
        # What comes is what was guessed, but another word is guessed behind it.
        setup = Setup(COINS, guesses=tuple((word + 1) % 64 for word in range(64)))
        for seat, own in ((None, {}), (0, {1: 1})):
            for stop, tick in ((1, None), (2, None), (3, 2), (10 ** 59, 2)):
                self.assertEqual(first_change(setup, ((0, 0),), ((0, 0), (1, 65)), seat, own, stop), tick)

    def test_a_later_row_that_is_none(self):
        for later in ((), ROW[:2], ((0, 3), (65, 66), (2, -1)), ((0, 3), (1, 3), (2, -1), (2, -1)), ((0, 3), (65, 67), (2, 3))):
            self.assertEqual(error_of(first_change, PAIR, ROW, later, 0, {}, 9), ("InvalidOperation",))

    def test_refused(self):
        later = (*ROW, (0, -1))
        for seat in (None, 0):
            check_order(self, first_change, (PAIR, ROW, later, seat, {1: 2}, 9), (SETUPS, ROWS, ROWS, SEATS, OWNS, whole_choices()))
        # All of these are told ahead of rows that do not go together.
        for at, value in ((0, None), (1, 5), (2, 5), (3, 9), (4, None), (5, None)):
            args = [PAIR, ROW, (), 0, {}, 9]
            args[at] = value
            self.assertNotIn(error_of(first_change, *args), (None, ("InvalidOperation",)) if at != 4 else (None,))

    def test_what_is_not_true(self):
        self.assertNotEqual(used(PAIR, ((0, 3),), 0, {}, 1), heard(((0, 3), (0, 4))[1]))
        self.assertEqual([heard(joint) for joint in ((0, 64), (64, 0))], [(0, 0), (0, 0)])


if __name__ == "__main__":
    unittest.main()
