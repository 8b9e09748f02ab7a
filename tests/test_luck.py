"""Stage 2: luck, spots and draws."""

import unittest

from helper import JUNK, Dice, check_order, number_error, whole_choices
from settledplay.base import luck as names
from settledplay.base.luck import (FACTOR, MAX_SIDES, MODULUS, STILL, SUMMAND, drawn, is_luck, luck_after, luck_ahead,
                                   luck_before, lucks_between, next_luck, spot_number, stirred, turn_of, unstirred)

LUCKS = (0, 1, 2, 5, STILL, STILL - 1, STILL + 1, SUMMAND, MODULUS - 2, MODULUS - 1, 123456789, 776304030)
WRONG = [(value, ("InvalidLuck",)) for value in (-1, MODULUS, True, False, None, "0", 10 ** 60, (0,), [0])]
WHOLE = whole_choices()
HUGE = 10 ** 60 - 1


class LuckTest(unittest.TestCase):
    def test_constants(self):
        told = (MODULUS, FACTOR, SUMMAND, STILL, MAX_SIDES)
        self.assertEqual(told, (999999937, 48274, 271829, 949019055, 1000))
        self.assertEqual(MODULUS - 1, 2 ** 6 * 3 ** 2 * 13 * 83 * 1609)

    def test_is_luck(self):
        for value in LUCKS:
            self.assertIs(is_luck(value), True)
        for value in (*JUNK, MODULUS, MODULUS + 1, -2):
            self.assertIs(is_luck(value), False, value)

    def test_next_and_ahead(self):
        for luck in LUCKS:
            self.assertEqual(next_luck(luck), (48274 * luck + 271829) % 999999937)
            self.assertEqual((next_luck(luck_ahead(luck)), luck_ahead(next_luck(luck))), (luck, luck))
            self.assertEqual(next_luck(luck) == luck, luck == STILL)

    def test_one_ring(self):
        for luck in LUCKS:
            self.assertEqual(luck_after(luck, MODULUS - 1), luck)
            for prime in (2, 3, 13, 83, 1609):
                self.assertEqual(luck_after(luck, (MODULUS - 1) // prime) == luck, luck == STILL)
        self.assertNotEqual(luck_after(0, MODULUS), 0)
        self.assertEqual(luck_after(STILL, MODULUS), STILL)

    def test_after_and_before_many(self):
        for luck in LUCKS:
            after = before = luck
            for many in range(40):
                self.assertEqual((luck_after(luck, many), luck_before(luck, many)), (after, before))
                after, before = next_luck(after), luck_ahead(before)
            for many in (10 ** 12, HUGE, MODULUS - 2, MODULUS, 2 ** 61):
                self.assertEqual(luck_after(luck, many), ((luck - STILL) * pow(FACTOR, many, MODULUS) + STILL) % MODULUS)
                self.assertEqual(luck_before(luck_after(luck, many), many), luck)

    def test_lucks_between(self):
        dice = Dice(2)
        for one in LUCKS:
            for other in (*LUCKS, dice.random.randrange(MODULUS)):
                many = lucks_between(one, other)
                if STILL in (one, other):
                    self.assertEqual(many, 0 if one == other else None)
                else:
                    self.assertTrue(0 <= many < MODULUS - 1)
                    self.assertEqual(luck_after(one, many), other)
        for many in (0, 1, 2, 63, 64, MODULUS - 2):
            self.assertEqual(lucks_between(7, luck_after(7, many)), many)
        self.assertEqual(lucks_between(7, luck_after(7, MODULUS - 1)), 0)

    def test_stirring(self):
        for luck in LUCKS:
            self.assertEqual(stirred(luck), (pow(luck, 5, MODULUS) + 271829) % MODULUS)
            self.assertEqual((unstirred(stirred(luck)), stirred(unstirred(luck))), (luck, luck))

    def test_spot_numbers(self):
        for luck, entry, thing, turn in ((0, 0, 0, 0), (7, 1, 3, 2), (MODULUS - 1, 15, HUGE, 5), (3, HUGE, 1, HUGE)):
            number = stirred((stirred((stirred((stirred(luck) + entry) % MODULUS) + thing) % MODULUS) + turn) % MODULUS)
            self.assertEqual(spot_number(luck, entry, thing, turn), number)

    def test_spots_that_differ_in_one(self):
        spot = [5, 4, 3, 2]
        for at in range(4):
            numbers = set()
            for more in (0, 1, 2, 1000, 999999936 - spot[at], 500000000):
                changed = list(spot)
                changed[at] = spot[at] + more
                numbers.add(spot_number(*changed))
            self.assertEqual(len(numbers), 6)

    def test_turn_of(self):
        for luck, entry, thing in ((0, 0, 0), (7, 1, 3), (STILL, HUGE, 10 ** 20)):
            for number in LUCKS:
                turn = turn_of(luck, entry, thing, number)
                self.assertTrue(0 <= turn < MODULUS)
                self.assertEqual(spot_number(luck, entry, thing, turn), number)
            for turn in (0, 1, 2, 99, MODULUS - 1):
                self.assertEqual(turn_of(luck, entry, thing, spot_number(luck, entry, thing, turn)), turn)
            self.assertEqual(turn_of(luck, entry, thing, spot_number(luck, entry, thing, MODULUS)), 0)

    def test_draws(self):
        for spot in ((0, 0, 0, 0), (7, 1, 3, 1), (STILL, 2, HUGE, 4), (MODULUS - 1, 0, 12, 0)):
            for sides in (1, 2, 6, 7, 100, 999, 1000):
                draw = drawn(*spot, sides)
                self.assertEqual(draw, spot_number(*spot) * sides // MODULUS)
                self.assertTrue(0 <= draw < sides)
            for a, b in ((2, 3), (10, 100), (1, 1000), (31, 32)):
                self.assertEqual(drawn(*spot, a * b) // b, drawn(*spot, a))
        for number in (0, MODULUS - 1):
            turn = turn_of(0, 0, 0, number)
            self.assertEqual(drawn(0, 0, 0, turn, 1000), 0 if number == 0 else 999)

    def test_each_draw_comes_as_often(self):
        for sides in (2, 6, 1000):
            for draw in range(1, sides, 97):
                # The least spot number with this draw; the one ahead of it has the draw ahead.
                least = -(-draw * MODULUS // sides)
                for number, wanted in ((least, draw), (least - 1, draw - 1)):
                    self.assertEqual(drawn(9, 8, 7, turn_of(9, 8, 7, number), sides), wanted)

    def test_refused_arguments(self):
        sides = [(value, number_error(value)) for value in (0, -1, 1001, True, None, "6", 10 ** 60)]
        for name in ("next_luck", "luck_ahead", "stirred", "unstirred"):
            check_order(self, getattr(names, name), (5,), (WRONG,))
        for name in ("luck_after", "luck_before"):
            check_order(self, getattr(names, name), (5, HUGE), (WRONG, WHOLE))
        check_order(self, lucks_between, (5, 6), (WRONG, WRONG))
        check_order(self, spot_number, (5, HUGE, HUGE, HUGE), (WRONG, WHOLE, WHOLE, WHOLE))
        check_order(self, turn_of, (5, 0, 0, 7), (WRONG, WHOLE, WHOLE, WRONG))
        for good in (1, 1000):
            check_order(self, drawn, (5, 0, 0, 7, good), (WRONG, WHOLE, WHOLE, WHOLE, sides))

    def test_what_is_not_true(self):
        self.assertEqual(len({spot_number(0, 0, 0, turn_of(0, 0, 0, 5)), spot_number(1, 2, 3, turn_of(1, 2, 3, 5))}), 1)
        self.assertEqual([drawn(luck, 0, 0, 0, 100) for luck in (0, 2)], [75, 2])


if __name__ == "__main__":
    unittest.main()
