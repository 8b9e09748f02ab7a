"""Stage 1: texts of plain values, and frames."""

import re
import unittest
from itertools import product
from random import Random

from helper import JUNK, deep, error_of, refused_all
from settledplay.base.texts import MOST_DEEP, MOST_LONG, MOST_TEXT, framed, is_plain, parted, text_of, value_of

SIGNS = "".join(chr(code) for code in range(32, 127))
WRONG_TEXTS = [value for value in JUNK if not isinstance(value, str)] + ["a\nb", "\x1f", "\x7f", "a\x1f", "i1;\x7f", "\xe9", "~" * 20001]
OTHER = type("Other", (), {})()
LEAVES = [
    (None, "n"), (0, "i0;"), (1, "i1;"), (-1, "i-1;"), (10, "i10;"), (-30, "i-30;"), (10 ** 60 - 1, "i" + "9" * 60 + ";"),
    (1 - 10 ** 60, "i-" + "9" * 60 + ";"), (10 ** 59, "i1" + "0" * 59 + ";"), ("", "s0:"), ("a:", "s2:a:"), ("n", "s1:n"),
    (" ", "s1: "), ("~" * 9, "s9:" + "~" * 9), ("i1;t0:", "s6:i1;t0:"), (SIGNS, "s95:" + SIGNS), ("x" * 2000, "s2000:" + "x" * 2000),
    ((), "t0:"),
]


def some_value(dice, depth):
    """A plain value."""
    if depth == 0 or dice.random() < 0.4:
        sign = "".join(dice.choice("n0:;ist-19 ~") for _ in range(dice.choice((0, 1, 2, 10, 11))))
        return dice.choice((None, 0, 1, -1, 12, -10 ** 20, sign, sign))
    return tuple(some_value(dice, depth - 1) for _ in range(dice.choice((0, 1, 2, 3, 10))))


def rest_of(text, depth=1):
    """A second reader: what is left behind the text of a value, None if a value begins so, False if none does."""
    if text == "" or text[0] == "n":
        return text[1:] if text else None
    if text[0] == "i":
        whole = re.match(r"i(0|-?[1-9][0-9]{0,59});", text)
        begun = re.fullmatch(r"i(-|0|-?[1-9][0-9]{0,59})?", text)
        return text[whole.end():] if whole else None if begun else False
    if text[0] not in "st" or text[0] == "t" and depth > 200:
        return False
    head = re.match(r"[st](0|[1-9][0-9]{0,3}):", text)
    if not head or int(head[1]) > 2000:
        begun = re.fullmatch(r"[st](0|[1-9][0-9]{0,3})?", text)
        return None if begun and int(begun[1] or 0) <= 2000 else False
    left = text[head.end():]
    if text[0] == "s":
        return left[int(head[1]):] if len(left) >= int(head[1]) else None
    for _ in range(int(head[1])):
        left = rest_of(left, depth + 1)
        if not left and left != "":
            return left
    return left


def spot_of(text):
    """Where the text goes wrong, None if it is the text of a value."""
    if rest_of(text) == "":
        return None
    return max(many for many in range(len(text) + 1) if rest_of(text[:many]) in (None, ""))


class TextsTest(unittest.TestCase):
    def test_constants(self):
        self.assertEqual((MOST_TEXT, MOST_LONG, MOST_DEEP), (20000, 2000, 200))

    def test_forms(self):
        for value, text in LEAVES:
            self.assertEqual((text_of(value), is_plain(value)), (text, True))
            self.assertEqual((value_of(text), type(value_of(text))), (value, type(value)))
        for one, other in product(LEAVES, LEAVES):
            value, text = (one[0], (other[0],), one[0]), "t3:" + one[1] + "t1:" + other[1] + one[1]
            self.assertEqual(text_of(value), text)
            self.assertEqual(value_of(text), value)

    def test_bounds(self):
        for value in (10 ** 60 - 1, 1 - 10 ** 60, "x" * 2000, " ", "~", (None,) * 2000, deep(0, 200), deep((), 199), ((), deep("", 199))):
            self.assertIs(is_plain(value), True)
            self.assertEqual(value_of(text_of(value)), value)
        for value in (10 ** 60, -10 ** 60, "x" * 2001, "\x1f", "\x7f", "a\n", (None,) * 2001, deep(0, 201), deep((), 200),
                      ((), deep("", 200)), True, False, [], {}, [1], "\xe9", b"a", OTHER):
            for wrong in (value, (0, value), (("a", (value,)),)):
                self.assertIs(is_plain(wrong), False)
                self.assertEqual(error_of(text_of, wrong), ("InvalidOperation",))

    def test_junk(self):
        for value in JUNK:
            plain = value is None or type(value) is int and abs(value) < 10 ** 60 or value in ("", "0")
            plain = bool(plain or isinstance(value, tuple) and value != (True, True))
            self.assertIs(is_plain(value), plain)
            self.assertEqual(error_of(text_of, value), None if plain else ("InvalidOperation",))

    def test_texts_of_many_signs(self):
        for last, error in ((1930, None), (1931, ("TooMany", "20000")), (2000, ("TooMany", "20000"))):
            value = ("y" * 1800,) * 10 + ("y" * last,)
            self.assertEqual(len("t11:") + 10 * 1806 + len("s1930:") + 1930, 20000)
            self.assertEqual(error_of(text_of, value), error, last)
            self.assertIs(is_plain(value), True)
        self.assertEqual(len(text_of(("y" * 1800,) * 10 + ("y" * 1930,))), 20000)
        self.assertEqual(error_of(text_of, ("z" * 2000,) * 2000), ("TooMany", "20000"))
        self.assertEqual(error_of(text_of, (("z" * 2000,) * 100, True)), ("InvalidOperation",))

    def test_invalid_texts(self):
        for function in (value_of, framed, parted):
            for value in WRONG_TEXTS:
                self.assertEqual(error_of(function, value), ("InvalidText",), value)
        self.assertEqual(error_of(value_of, "~" * 20000), ("ParseError", "0"))

    def test_spots(self):
        for text, spot in (("", 0), ("nn", 1), ("t2:i1;i-0;", 8), ("i", 1), ("i-", 2), ("i-0", 2), ("i00;", 2), ("i1", 2), ("i+1;", 1),
                           ("i01;", 2), ("i;", 1), ("i" + "9" * 60, 61), ("i" + "9" * 61, 61), ("i-" + "9" * 61 + ";", 62),
                           ("i1" + "0" * 60 + ";", 61), ("i-1" + "0" * 60 + ";", 62), ("i" + "1" * 19000, 61), ("s" + "1" * 19000, 5), ("t" + "1" * 19000 + ":", 5),
                           ("s", 1), ("s00:", 2), ("s01:a", 2), ("s2001:", 4), ("s2000:x", 7), ("s3000:", 4), ("s20000:", 5),
                           ("s20000", 5), ("s3:ab", 5), ("s1:abc", 4), ("s-1:", 1), ("s:", 1), ("t", 1), ("t2:n", 4), ("t1:x", 3), ("t01:n", 2),
                           ("t2001:", 4), ("t2000:", 6), ("t-1:", 1), ("t1:t1:t1:n;", 10), ("t1:t1:t1:nn", 10), ("x", 0), (" n", 0), ("n ", 1),
                           ("N", 0), ("I1;", 0), ("f0:0000", 0), ("t0:t0:", 3), ("i1;i1;", 3), ("s0::", 3)):
            self.assertEqual(error_of(value_of, text), ("ParseError", str(spot)), text)
            self.assertEqual(spot_of(text), spot, text)

    def test_spots_of_depth(self):
        for many in (199, 200, 201, 250):
            text = "t1:" * many
            self.assertEqual(error_of(value_of, text + "x"), ("ParseError", str(3 * min(many, 200))))
            self.assertEqual(error_of(value_of, text + "n"), None if many <= 200 else ("ParseError", "600"))
            self.assertEqual(error_of(value_of, text[:-3] + "t0:"), None if many <= 200 else ("ParseError", "600"))
        self.assertEqual(error_of(value_of, "t1:" * 6000), ("ParseError", "600"))

    def test_all_short_texts(self):
        for many in range(5):
            for signs in product("nist012-:;", repeat=many):
                text = "".join(signs)
                spot = spot_of(text)
                self.assertEqual(error_of(value_of, text), None if spot is None else ("ParseError", str(spot)), text)

    def test_texts_that_were_changed(self):
        dice = Random(91)
        for _ in range(1500):
            value = some_value(dice, 3)
            text = text_of(value)
            self.assertEqual(value_of(text), value)
            at = dice.randrange(len(text))
            other = dice.choice((text[:at], text[:at] + dice.choice("nist0129-:; ") + text[at + 1:], text[:at] + text[at + 1:],
                                 text[:at] + dice.choice("0n;") + text[at:], text + dice.choice("n;0")))
            spot = spot_of(other)
            self.assertEqual(error_of(value_of, other), None if spot is None else ("ParseError", str(spot)), other)
            if spot is None:
                self.assertEqual(text_of(value_of(other)), other)

    def test_no_text_is_a_proper_beginning_of_another_one(self):
        dice = Random(92)
        values = {repr(value): value for value in [some_value(dice, 3) for _ in range(4000)] + [value for value, _ in LEAVES]}
        texts = sorted(text_of(value) for value in values.values())
        self.assertGreater(len(texts), 1000)
        self.assertEqual(len(set(texts)), len(texts))
        for one, other in zip(texts, texts[1:]):
            self.assertFalse(other.startswith(one))


def naive_seal(text):
    """The seal, sign by sign."""
    total = 0
    for at in range(len(text)):
        total = (total + (at + 1) * ord(text[at])) % 9973
    return str(total).zfill(4)


def naive_frame(text):
    return "f" + str(len(text)) + ":" + text + naive_seal(text)


def naive_parted(text):
    """Parting as it is told: any length that there can be is tried."""
    texts, at = [], 0
    while True:
        rest = text[at:]
        found = None
        for length in range(len(rest)):
            body = rest[2 + len(str(length)):][:length]
            if rest.startswith(naive_frame(body)) and len(body) == length:
                found = body
                break
        if found is None:
            return tuple(texts), "whole" if not rest else "torn" if begins_frame(rest) else "bent", at
        texts.append(found)
        at += len(naive_frame(found))


def begins_frame(rest):
    """Whether some frame begins so: what is not told yet is filled in."""
    head = re.match(r"f(0|[1-9][0-9]{0,4}):", rest)
    if not head:
        begun = re.fullmatch(r"f(0|[1-9][0-9]{0,4})?", rest)
        return bool(begun) and int(begun[1] or 0) <= 20000
    body = rest[head.end():][:int(head[1])]
    return int(head[1]) <= 20000 and naive_frame(body.ljust(int(head[1]), "x")).startswith(rest[:head.end() + int(head[1])]) and (
        len(body) < int(head[1]) or naive_frame(body).startswith(rest))


class FramesTest(unittest.TestCase):
    def test_frames(self):
        self.assertEqual(framed(""), "f0:0000")
        self.assertEqual(framed("a"), "f1:a0097")
        self.assertEqual(framed("ab"), "f2:ab0293")
        self.assertEqual(framed("ba"), "f2:ba0292")
        self.assertEqual(framed("~" * 12), "f12:" + "~" * 12 + "9828")
        self.assertEqual(framed("~" * 13), "f13:" + "~" * 13 + str(126 * 91 % 9973).zfill(4))
        self.assertEqual(framed(SIGNS), naive_frame(SIGNS))

    def test_long_frames(self):
        for many, error in ((19988, None), (19989, None), (19990, ("TooMany", "20000")), (20000, ("TooMany", "20000"))):
            self.assertEqual(error_of(framed, "q" * many), error)
        frame = framed("q" * 19989)
        self.assertEqual((len(frame), parted(frame)), (20000, (("q" * 19989,), "whole", 20000)))
        self.assertEqual(parted(frame[:-1])[1:], ("torn", 0))

    def test_parting(self):
        self.assertEqual(parted(""), ((), "whole", 0))
        for text, word in (("f", "torn"), ("f0", "torn"), ("f0:", "torn"), ("f0:00", "torn"), ("f0:0001", "bent"), ("f0:1", "bent"), ("f00", "bent"),
                           ("f00:0000", "bent"), ("f02:ab0293", "bent"), ("f2:ab029", "torn"), ("f2:ab0294", "bent"), ("f2:ab03", "bent"),
                           ("f2:", "torn"), ("f20000", "torn"), ("f20001", "bent"), ("f200000", "bent"), ("f20000:x", "torn"), ("f20001:x", "bent"),
                           ("f19999:xx", "torn"), ("f-1:", "bent"), ("f:", "bent"), (":", "bent"), ("f 2:ab0293", "bent"), ("F2:ab0293", "bent"),
                           ("x", "bent"), (" ", "bent"), ("ff", "bent"), ("f" + "1" * 19000, "bent"), ("f" + "1" * 19000 + ":", "bent"), ("f2;ab0293", "bent"), ("f2:ab 293", "bent"), ("2:ab0293", "bent")):
            self.assertEqual(parted(text), ((), word, 0), text)
            for more in ("", "abc", "f1:x"):
                self.assertEqual(parted(framed(more) + text), ((more,), word, len(framed(more))), text)

    def test_all_short_rests(self):
        for many in range(6):
            for signs in product("f01:a", repeat=many):
                text = "".join(signs)
                self.assertEqual(parted(text), naive_parted(text), text)

    def test_rows_of_frames_that_are_cut_anywhere(self):
        dice = Random(93)
        for _ in range(60):
            texts = ["".join(dice.choice("f0:129 ~") for _ in range(dice.choice((0, 0, 1, 2, 9, 10, 12)))) for _ in range(dice.randint(0, 5))]
            ends, row = [], ""
            for text in texts:
                row += framed(text)
                ends.append(len(row))
            for cut in range(len(row) + 1):
                whole = [end for end in ends if end <= cut]
                place = whole[-1] if whole else 0
                self.assertEqual(parted(row[:cut]), (tuple(texts[:len(whole)]), "torn" if cut > place else "whole", place))

    def test_frames_with_a_sign_that_was_changed(self):
        dice = Random(94)
        words = set()
        for _ in range(1500):
            row = "".join(framed("".join(dice.choice("ab1:") for _ in range(dice.choice((0, 1, 3, 11))))) for _ in range(dice.randint(1, 3)))
            at = dice.randrange(len(row))
            text = row[:at] + dice.choice("f0123456789:a") + row[at + 1:]
            self.assertEqual(parted(text), naive_parted(text), text)
            words.add(parted(text)[1])
        self.assertEqual(words, {"whole", "torn", "bent"})

    def test_a_length_that_grew(self):
        self.assertEqual(parted("f9:ab0293"), ((), "torn", 0))

    def test_no_frame_is_a_proper_beginning_of_another_one(self):
        frames = sorted({framed("".join(signs)) for many in range(5) for signs in product("f01:", repeat=many)})
        for one, other in zip(frames, frames[1:]):
            self.assertFalse(other.startswith(one))

    def test_wrong_values(self):
        refused_all(self, framed, "InvalidText", [at for at, value in enumerate(JUNK) if isinstance(value, str) and value != "a\nb"])


if __name__ == "__main__":
    unittest.main()
