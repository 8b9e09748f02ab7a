"""Stage 12: letters and the bag."""

import unittest
from itertools import permutations, product
from random import Random

from helper import JUNK, error_of, number_error, spoiled
from settledplay.base.texts import is_plain, text_of
from settledplay.net.bag import Bag, judged_handing
from settledplay.net.letters import (HOST, MOST_PIECE, MOST_PIECES, MOST_SEAT, MOST_STRETCH, MOST_WORDS, goal, is_letter, letter_text,
                                     read_letter)

FAR = 10 ** 60 - 1
KEYS, ROWS = ("keys", 1, 3, (0, 5), 77), ("rows", 1, 0, ((0, 5), (64, -1)))
PIECE, WORD = ("piece", 2, 7, 1, 3, "a b"), ("word", 5, "come")
LETTERS = [
    KEYS, ROWS, PIECE, WORD, ("keys", 1, 0, (), 0), ("keys", 5, FAR, (0, 63) * 10, 999999936), ("keys", 3, 0, (0,) * 20, 5), ("rows", 1, 0, ()),
    ("rows", 5, FAR, ((-1,),) * 32), ("rows", 2, 4, ((-1, 0, 64, 127),) * 32), ("rows", 2, 4, ((127,),)), ("rows", 4, 0, ((0, 1, 2), (3, 4, 5))),
    ("piece", 1, 0, 0, 1, "~"), ("piece", 5, FAR, 99, 100, " " * 200), ("piece", 1, 0, 0, 100, "x" * 199), ("word", 1, "come"), ("word", 1, "go"),
    ("keys", 1, 3, (0, 5), 78), ("keys", 1, 3, (0,), 77), ("keys", 1, 4, (0, 5), 77), ("keys", 2, 3, (0, 5), 77), ("piece", 2, 7, 1, 4, "a b"),
]
SEATS = (0, 6, -1, True, False, None, "1", 10 ** 60, (1,), [1])
TICKS = (-1, True, False, None, "0", 10 ** 60, (), [0])
WRONG = [
    *JUNK, (), ("keys",), ("rows", 1), ("word", 1), ("key", 1, 3, (), 0), ("Keys", 1, 3, (), 0), (None, 1, 3, (), 0), (("keys",), 1, 3, (), 0), (["keys"], 1),
    (1, "keys", 3, (), 0), list(KEYS), list(ROWS), list(PIECE), list(WORD),
    *[(*letter, 0) for letter in (KEYS, ROWS, PIECE, WORD)], *[letter[:-1] for letter in (KEYS, ROWS, PIECE, WORD)],
    *[(letter[0], seat, *letter[2:]) for letter in (KEYS, ROWS, PIECE, WORD) for seat in SEATS],
    *[(*letter[:2], tick, *letter[3:]) for letter in (KEYS, ROWS, PIECE) for tick in TICKS],
    *[("keys", 1, 3, words, 77) for words in ((0,) * 21, (64,), (-1,), (True,), (0, None), [0], "0", None, 0, ((0,),), (10 ** 60,))],
    *[("keys", 1, 3, (0,), number) for number in (-1, 999999937, True, False, None, "7", (), 10 ** 60)],
    *[("rows", 1, 0, rows) for rows in (((0,),) * 33, ((),), ((0,) * 5,), ((0, 1), (0,)), ((0,), (0, 1)), ((128,),), ((-2,),), ((True,),), ((0, None),),
                                         [(0,)], ([0],), (0,), None, 0, "0", ((0,), 0), ((10 ** 60,),))],
    *[("rows", 1, 0, (first, (0, 3))) for first in JUNK],
    *[("rows", 1, 0, ((0, 3), other, (0, 3))) for other in JUNK],
    *[("piece", 1, 0, index, many, "x") for index, many in ((0, 0), (0, 101), (1, 1), (2, 2), (100, 100), (-1, 1), (True, 2), (0, True), (None, 1), (0, None),
                                                            ("0", 1), (0, "1"), ((), 1), (0, 10 ** 60))],
    *[("piece", 1, 0, 0, 1, text) for text in ("", "x" * 201, "a\nb", "\x1f", "\x7f", "\xe9", None, 0, ("x",), ["x"])],
    *[("word", 1, word) for word in ("", "Come", "come ", "goes", None, True, 0, ("go",), ["go"])],
]


def naive_judged(letters, handing):
    """What a handing does, number by number."""
    lost = [number for number in range(len(letters)) if number not in handing]
    doubled = [number for number in range(len(letters)) if handing.count(number) >= 2]
    overtaken = []
    for number in set(handing):
        ahead = handing[:handing.index(number)]
        if any(other > number and goal(letters[other]) == goal(letters[number]) for other in ahead):
            overtaken.append(number)
    return tuple(lost), tuple(doubled), tuple(sorted(overtaken))


def is_integer(value, low, high):
    """Whether the value is an integer from low to high."""
    return type(value) is int and low <= value <= high


def are_all(value, most, is_member):
    """Whether the value is a tuple of at most so many members, each of them right."""
    return type(value) is tuple and len(value) <= most and all(map(is_member, value))


def is_joint(value):
    """Whether the value is a tuple of entries that a rows letter can tell."""
    return are_all(value, 4, lambda entry: is_integer(entry, -1, 127)) and value != ()


def naive_is_letter(value):
    """Whether the value is a letter, as [12.1] tells it, form by form."""
    if type(value) is not tuple or len(value) < 3 or type(value[0]) is not str or not is_integer(value[1], 1, 5):
        return False
    word, behind = value[0], value[2:]
    if (word, len(behind)) == ("keys", 3):
        return (is_integer(behind[0], 0, FAR) and are_all(behind[1], 20, lambda member: is_integer(member, 0, 63))
                and is_integer(behind[2], 0, 999999936))
    if (word, len(behind)) == ("rows", 2):
        return is_integer(behind[0], 0, FAR) and are_all(behind[1], 32, is_joint) and len(set(map(len, behind[1]))) < 2
    if (word, len(behind)) == ("piece", 4):
        tick, index, many, text = behind
        return (is_integer(tick, 0, FAR) and is_integer(many, 1, 100) and is_integer(index, 0, many - 1)
                and type(text) is str and 1 <= len(text) <= 200 and all(" " <= sign <= "~" for sign in text))
    return (word, len(behind)) == ("word", 1) and type(behind[0]) is str and behind[0] in ("come", "go")


class LettersTest(unittest.TestCase):
    def test_constants(self):
        self.assertEqual((HOST, MOST_SEAT, MOST_WORDS, MOST_STRETCH, MOST_PIECES, MOST_PIECE), (-1, 5, 20, 32, 100, 200))

    def test_forms(self):
        for letter in LETTERS:
            self.assertIs(is_letter(letter), True, letter)
        for value in WRONG:
            self.assertIs(is_letter(value), False, value)

    def test_letters_with_something_else_in_them(self):
        """What is no letter is judged [0.5] and refused [0.4], wherever in it something wrong stands."""
        tall = ("rows", 3, 2, ((0, 1, 2), (-1, 64, 127), (5, 6, 7)))
        seen = 0
        for letter in (KEYS, ROWS, PIECE, WORD, tall):
            for value in spoiled(letter):
                is_right = naive_is_letter(value)
                seen += is_right
                self.assertIs(is_letter(value), is_right, value)
                for call in (goal, letter_text, Bag().sent, lambda value: Bag((value, ROWS)), lambda value: Bag().sent_all((ROWS, value))):
                    self.assertEqual(error_of(call, value), None if is_right else ("InvalidLetter",), value)
                if is_plain(value) and not is_right:
                    self.assertEqual(error_of(read_letter, text_of(value)), ("InvalidLetter",), value)
        self.assertGreater(seen, 10)

    def test_goals(self):
        for seat in range(1, 6):
            told = [goal((letter[0], seat, *letter[2:])) for letter in (KEYS, WORD, ROWS, PIECE)]
            self.assertEqual(told, [-1, -1, seat, seat])

    def test_texts(self):
        self.assertEqual(letter_text(KEYS), "t5:s4:keysi1;i3;t2:i0;i5;i77;")
        self.assertEqual(letter_text(ROWS), "t4:s4:rowsi1;i0;t2:t2:i0;i5;t2:i64;i-1;")
        self.assertEqual(letter_text(PIECE), "t6:s5:piecei2;i7;i1;i3;s3:a b")
        for letter in LETTERS:
            self.assertIs(is_plain(letter), True)
            self.assertEqual((letter_text(letter), read_letter(letter_text(letter))), (text_of(letter), letter))

    def test_no_text_is_a_proper_beginning_of_another_one(self):
        dice = Random(141)
        letters = set(LETTERS)
        for _ in range(1500):
            seat, tick = dice.randint(1, 5), dice.choice((0, 1, 10, 11, FAR))
            words = tuple(dice.choice((0, 1, 6, 63)) for _ in range(dice.choice((0, 1, 2, 10, 20))))
            many = dice.choice((1, 2, 10, 100))
            letters |= {("keys", seat, tick, words, dice.choice((0, 9, 99))), ("word", seat, dice.choice(("come", "go"))),
                        ("rows", seat, tick, tuple((dice.choice((-1, 0, 12, 127)),) * (many % 3 + 1) for _ in range(dice.choice((0, 1, 2, 32))))),
                        ("piece", seat, tick, dice.randrange(many), many, dice.choice("a1;:") * dice.choice((1, 2, 10, 200)))}
        for letter in letters:
            self.assertEqual(read_letter(letter_text(letter)), letter)
        texts = sorted(letter_text(letter) for letter in letters)
        self.assertEqual(len(set(texts)), len(letters))
        self.assertGreater(len(texts), 1000)
        for one, other in zip(texts, texts[1:]):
            self.assertFalse(other.startswith(one))

    def test_texts_of_no_letter(self):
        for value in WRONG:
            if is_plain(value):
                self.assertEqual(error_of(read_letter, text_of(value)), ("InvalidLetter",), value)
        for text in ("", "x", "i1;", "n", "t3:s4:wordi2;s2:g", "t3:s4:wordi02;s2:go", "t3:s4:wordi2;s2:go ", "t3:s4:wordi2;s2:gon", "~" * 20000):
            self.assertEqual(error_of(read_letter, text), ("InvalidLetter",), text)
        for value in [value for value in JUNK if not isinstance(value, str)] + ["a\nb", "\x1f", "\x7f", "~" * 20001, letter_text(WORD) + "\n"]:
            self.assertEqual(error_of(read_letter, value), ("InvalidText",), value)

    def test_refused(self):
        for function in (goal, letter_text):
            for value in WRONG:
                self.assertEqual(error_of(function, value), ("InvalidLetter",), value)


class BagTest(unittest.TestCase):
    def test_what_was_sent(self):
        bag = Bag()
        for many, letter in enumerate(LETTERS):
            self.assertEqual((bag.letters, len(bag), str(bag)), (tuple(LETTERS[:many]), many, f"bag of {many} letters"))
            bag = bag.sent(letter)
        self.assertEqual(bag, Bag(tuple(LETTERS)))
        self.assertEqual([bag.letter(number) for number in range(len(LETTERS))], LETTERS)
        for cut in range(len(LETTERS)):
            self.assertEqual(Bag(tuple(LETTERS[:cut])).sent_all(tuple(LETTERS[cut:])), bag)
        self.assertEqual((bag.sent_all(()), len(bag.sent(KEYS).sent(KEYS)), str(Bag((KEYS,)))), (bag, len(LETTERS) + 2, "bag of 1 letters"))
        with self.assertRaises(TypeError):
            iter(bag)

    def test_goals(self):
        bag = Bag(tuple(LETTERS))
        for place in range(-1, 6):
            self.assertEqual(bag.to(place), tuple(number for number, letter in enumerate(LETTERS) if goal(letter) == place))
        self.assertEqual((bag.to(0), Bag().to(-1), bag.to(1)[:2]), ((), (), (1, 7)))
        for place in (-2, 6, True, False, None, "1", 10 ** 60, (), [], {}):
            self.assertEqual(error_of(bag.to, place), number_error(place))

    def test_numbers(self):
        bag = Bag((KEYS, ROWS))
        for number in (-1, 2, True, False, None, "0", 10 ** 60, (), [], {}):
            self.assertEqual(error_of(bag.letter, number), number_error(number))
        self.assertEqual(error_of(Bag().letter, 0), number_error(0))

    def test_equal_bags(self):
        bags = [Bag(), Bag((KEYS,)), Bag((ROWS,)), Bag((KEYS, ROWS)), Bag((ROWS, KEYS)), Bag((KEYS, KEYS))]
        for i, one in enumerate(bags):
            for k, other in enumerate(bags):
                self.assertEqual((one == other, one != other), (i == k, i != k))
            for value in JUNK:
                self.assertIs(one == value, i == 0 and isinstance(value, Bag))

    def test_nothing_changes(self):
        bag = Bag((KEYS,))
        bag.sent(ROWS), bag.sent_all((ROWS, ROWS))
        self.assertEqual((bag.letters, len(bag)), ((KEYS,), 1))

    def test_refused(self):
        for value in WRONG:
            self.assertEqual(error_of(Bag().sent, value), ("InvalidLetter",))
            self.assertEqual(error_of(Bag, (KEYS, value)), ("InvalidLetter",))
            self.assertEqual(error_of(Bag().sent_all, (value, KEYS)), ("InvalidLetter",))
        for value in [value for value in JUNK if value != ()] + [KEYS, [KEYS], {0: KEYS}]:
            self.assertEqual(error_of(Bag, value), ("InvalidLetter",))
            self.assertEqual(error_of(Bag().sent_all, value), ("InvalidLetter",))


class HandingTest(unittest.TestCase):
    BAG = Bag((KEYS, ROWS, WORD, ("rows", 2, 0, ()), ("rows", 1, 2, ()), KEYS))

    def test_by_hand(self):
        for handing, judged in (((0, 1, 2, 3, 4, 5), ((), (), ())), ((3, 1, 0, 4, 2, 5), ((), (), ())), ((), ((0, 1, 2, 3, 4, 5), (), ())),
                                ((5, 5, 0, 2, 0), ((1, 3, 4), (0, 5), (0, 2))), ((4, 1, 4, 1), ((0, 2, 3, 5), (1, 4), (1,))), ((0, 5, 0), ((1, 2, 3, 4), (0,), ())),
                                ((2, 0, 5), ((1, 3, 4), (), (0,))), ((5, 3, 1, 4), ((0, 2), (), ()))):
            self.assertEqual(judged_handing(self.BAG, handing), judged)
        self.assertEqual(judged_handing(Bag(), ()), ((), (), ()))

    def test_all_short_handings(self):
        letters = (KEYS, ROWS, WORD, ("rows", 1, 2, ()))
        for many in range(6):
            for handing in product(range(4), repeat=many):
                self.assertEqual(judged_handing(Bag(letters), handing), naive_judged(letters, handing))

    def test_long_handings(self):
        dice = Random(142)
        for _ in range(300):
            letters = tuple(dice.choice(LETTERS) for _ in range(dice.randint(1, 12)))
            handing = tuple(dice.randrange(len(letters)) for _ in range(dice.randint(0, 20)))
            self.assertEqual(judged_handing(Bag(letters), handing), naive_judged(letters, handing))

    def test_a_handing_that_does_nothing_to_the_letters(self):
        """Whoever hears letters hears those with its goal, each once, as they were sent; and the other way round."""
        for handing in permutations(range(6)):
            is_as_sent = all(tuple(number for number in handing if number in self.BAG.to(place)) == self.BAG.to(place) for place in range(-1, 6))
            self.assertEqual(judged_handing(self.BAG, handing) == ((), (), ()), is_as_sent)

    def test_refused(self):
        wrong = [value for value in JUNK if value not in ((), (1,))] + [(6,), (-1,), (0, 6), (True,), (0, None), [0], (10 ** 60,), 0, "0", ((0,),), {0: 1}]
        for value in wrong:
            self.assertEqual(error_of(judged_handing, self.BAG, value), ("InvalidOperation",), value)
        for value in JUNK:
            if not isinstance(value, Bag):
                self.assertEqual(error_of(judged_handing, value, ()), ("InvalidOperation",))
                self.assertEqual(error_of(judged_handing, value, None), ("InvalidOperation",))
        self.assertEqual(error_of(judged_handing, Bag(), (0,)), ("InvalidOperation",))

    def test_what_is_not_true(self):
        self.assertEqual(len(Bag((KEYS, ROWS))), 2)
        self.assertEqual(judged_handing(self.BAG, (1, 0, 2, 3, 4, 5)), ((), (), ()))
        self.assertEqual(judged_handing(self.BAG, (5, 0, 0))[1:], ((0,), (0,)))


if __name__ == "__main__":
    unittest.main()
