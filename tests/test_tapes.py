"""Stage 19: tapes."""

import unittest

from helper import COINS, JUNK, ROW, Dice, check_order, error_of, number_error, refused_all
from settledplay.base.texts import framed, parted, text_of
from settledplay.errors import InvalidGame
from settledplay.play.step import is_joint, next_world, plain, plain_worlds
from settledplay.rules.forms import Game
from settledplay.tape.tapes import MOST_TICKS, WORDS_A_FRAME, Seeker, Tape, first_unlike, judged, tape_of, tape_text, worlds_part

SMALL = Game((("dot", (("n", 0), ("seat", 0)), None),), (("for", "dot", (("set", "n", ("plus", ("own", "n"), ("key", 0))),)),), (("dot", (0, 0)),), arena=(1, 1))
BODY = Game((("dot", (("x", 0), ("y", 0), ("dx", 0), ("dy", 0)), (1, 1, True)),), (("move",),), (), arena=(1, 1), seats=1, luck=7)
GAMES = [(value, ("InvalidGame",)) for value in JUNK if not isinstance(value, Game)]
ROWS = [(value, ("InvalidRow",)) for value in JUNK if value != ()]
ROWS += [(value, ("InvalidRow",)) for value in (((0,),), ((0, 128),), ((0, 0, 0),), ((True, 0),), [(0, 0)], ((0, 0), None), (((0, 0),) * 400 + ((0, -2),)))]
TAPES = [(value, ("InvalidTape",)) for value in JUNK if not isinstance(value, Tape)]
LENGTHS = (0, 1, 2, 19, 20, 21, 39, 40, 41, 60)
# What follows the kinds in the value of a first frame of BODY.
REST = ((("move",),), (), (1, 1), 1, 7)
FIELDS = (("x", 0), ("y", 0), ("dx", 0), ("dy", 0))


def row_of(game, length):
    """A row in which no two joint words that follow one another are alike."""
    return tuple(tuple((tick * 7 + seat) % 129 - 1 for seat in range(game.seats)) for tick in range(length))


def frames(*values):
    """The frames of values, one behind the other."""
    return "".join(framed(text_of(value)) for value in values)


def head(game):
    """The value of the first frame of a game."""
    kinds = tuple((name, fields, body and (body[0], body[1], 1 if body[2] else 0)) for name, fields, body in game.kinds)
    return ("tape", kinds, game.entries, game.start, game.arena, game.seats, game.luck)


def naive_values(game, row):
    """The values of the frames of a tape."""
    values = [head(game)]
    for tick, joint in enumerate(row):
        if tick % 20 == 0:
            values.append(("words", tick, ()))
        values[-1] = ("words", values[-1][1], (*values[-1][2], joint))
    return [*values, ("end", len(row))]


def naive_value(text):
    """The value of a text, by trying what Python reads; None for no value."""
    at = 0

    def read():
        nonlocal at
        sign, at = text[at], at + 1
        if sign == "n":
            return None
        stop = ";" if sign == "i" else ":"
        digits = text[at:text.index(stop, at)]
        at += len(digits) + 1
        if str(int(digits)) != digits or sign not in "ist":
            raise ValueError
        if sign == "i":
            return int(digits)
        if sign == "s":
            at += int(digits)
            if at > len(text) or int(digits) < 0:
                raise ValueError
            return text[at - int(digits):at]
        if int(digits) < 0:
            raise ValueError
        return tuple(read() for _ in range(int(digits)))

    try:
        value = read()
    except (ValueError, IndexError):
        return None
    return value if at == len(text) else None


def naive_body(body):
    """A body with True or False, or what no game takes."""
    if body is None:
        return None
    width, height, solid = body
    return (width, height, {0: False, 1: True}[solid])


def naive_game(value):
    """The game of the value of a first frame, or None."""
    if not isinstance(value, tuple) or len(value) != 7 or value[0] != "tape":
        return None
    try:
        kinds = tuple((name, fields, naive_body(body)) for name, fields, body in value[1])
        return Game(kinds, value[2], value[3], arena=value[4], seats=value[5], luck=value[6])
    except (InvalidGame, TypeError, ValueError, KeyError):
        return None


def naive_judged(text):
    """The word, the game, the row and the place, frame by frame."""
    texts, rest, _ = parted(text)
    game, row, place, parts = None, (), 0, 0
    for at, told in enumerate(texts):
        value, end = naive_value(told), place + len(framed(told))
        if game is None:
            game = naive_game(value)
            if game is None:
                return "bent", None, (), place
        elif isinstance(value, tuple) and value[:1] == ("words",) and len(value) == 3:
            words = value[2] if isinstance(value[2], tuple) else ()
            is_next = value[1] == len(row) and parts == len(row) // 20 and 1 <= len(words) <= 20 and len(row) + len(words) <= 400
            if not is_next or not all(is_joint(game, joint) for joint in words):
                return "bent", game, row, place
            row, parts = row + words, parts + 1
        elif value == ("end", len(row)) and end == len(text):
            return "whole", game, row, end
        else:
            return "bent", game, row, place
        place = end
    return ("bent" if rest == "bent" else "cut"), game, row, place


class TapeTest(unittest.TestCase):
    def test_properties(self):
        self.assertEqual((MOST_TICKS, WORDS_A_FRAME), (400, 20))
        for length in (0, 1, 3):
            tape = Tape(COINS, ROW[:length])
            self.assertEqual((tape.game, tape.row, len(tape), str(tape)), (COINS, ROW[:length], length, f"tape of {length} ticks"))
        with self.assertRaises(TypeError):
            list(Tape(COINS, ROW))

    def test_worlds(self):
        dice = Dice(191)
        for _ in range(30):
            game = dice.some(COINS, dice.game())
            row = tuple(dice.joint(game) for _ in range(dice.random.randint(0, 6)))
            tape = Tape(game, row)
            for tick, world in enumerate(plain_worlds(game, row)):
                self.assertEqual((tape.world(tick), tape.until(tick)), (world, Tape(game, row[:tick])))

    def test_lengths(self):
        row = row_of(SMALL, 400)
        tape = Tape(SMALL, row)
        self.assertEqual((len(tape), tape.world(400)), (400, plain(SMALL, row)))
        for length in (401, 402, 450):
            self.assertEqual(error_of(Tape, SMALL, ((0, 0),) * length), ("TooMany", "400"))
        # What is wrong is told ahead of what is too long.
        self.assertEqual(error_of(Tape, SMALL, ((0, 0),) * 401 + ((0,),)), ("InvalidRow",))

    def test_equality(self):
        tape = Tape(COINS, ROW)
        self.assertTrue(tape == Tape(Game(COINS.kinds, COINS.entries, COINS.start, arena=(12, 6)), ROW) and not tape != Tape(COINS, ROW))
        for other in [*JUNK, Tape(COINS, ROW[:2]), Tape(COINS, (*ROW[:2], (0, 1))), Tape(Game(COINS.kinds, COINS.entries, COINS.start, arena=(12, 7)), ROW)]:
            self.assertTrue(tape != other and not tape == other)

    def test_refused(self):
        check_order(self, Tape, (COINS, ROW), [GAMES, ROWS])
        tape = Tape(COINS, ROW)
        for value in [*JUNK, 4, (0,), [1]]:
            for call in (tape.world, tape.until):
                self.assertEqual(error_of(call, value), number_error(value))
        self.assertEqual([error_of(tape.world, tick) for tick in range(5)], [None] * 4 + [number_error(4)])
        self.assertEqual([error_of(tape.until, tick) for tick in range(5)], [None] * 4 + [number_error(4)])


class TextTest(unittest.TestCase):
    def test_texts(self):
        dice = Dice(192)
        for game in [COINS, SMALL, BODY] + [dice.game() for _ in range(10)]:
            for length in LENGTHS:
                tape = Tape(game, row_of(game, length))
                text = tape_text(tape)
                self.assertEqual(text, frames(*naive_values(game, tape.row)))
                self.assertEqual((judged(text), tape_of(text)), (("whole", tape, len(text)), tape))
                self.assertEqual(judged(text)[1].world(length), tape.world(length))
        self.assertEqual(tape_text(Tape(BODY, ((5,),))), frames(
            ("tape", (("dot", FIELDS, (1, 1, 1)),), *REST), ("words", 0, ((5,),)), ("end", 1)))

    def test_true_is_not_one(self):
        for solid in (True, False):
            game = Game((("dot", FIELDS, (1, 1, solid)),), (("move",),), (), arena=(1, 1), seats=1)
            told = tape_of(tape_text(Tape(game, ()))).game
            self.assertEqual(told, game)
            self.assertIs(told.kinds[0][2][2], solid)
            self.assertIs(told.body("dot")[2], solid)

    def test_a_long_tape(self):
        tape = Tape(SMALL, row_of(SMALL, 400))
        text = tape_text(tape)
        self.assertEqual(len(parted(text)[0]), 22)
        self.assertEqual(judged(text), ("whole", tape, len(text)))

    def wide(self, more):
        """A game that makes much, with so many signs more than with the number 0 alone."""
        fields = tuple("field" + name * 3 for name in "abcdefgh")
        numbers = [10 ** min(9, max(0, more - 9 * at)) if more > 9 * at else 0 for at in range(768)]
        rows = [tuple(("make", "longname", tuple(zip(fields, numbers[at:at + 8]))) for at in range(first, first + 48, 8)) for first in range(0, 768, 48)]
        return Game((("longname", tuple((field, 0) for field in fields), None),), tuple(("for", "longname", row) for row in rows), (), arena=(1, 1))

    def test_too_long(self):
        least = len(tape_text(Tape(self.wide(0), ())))
        self.assertTrue(10000 < least < 20000)
        tape = Tape(self.wide(20000 - least), ())
        text = tape_text(tape)
        self.assertEqual((len(text), judged(text)), (20000, ("whole", tape, 20000)))
        # A sign more, a first frame that is too long by itself, and frames that are too long together.
        for game, row in ((self.wide(20001 - least), ()), (self.wide(6912), ()), (self.wide(19990 - least), ((0, 0),)), (self.wide(19600 - least), row_of(tape.game, 60))):
            self.assertEqual(error_of(tape_text, Tape(game, row)), ("TooMany", "20000"))
            self.assertIsNone(error_of(Tape(game, row).world, 0))

    def test_unlike_tapes_have_unlike_texts(self):
        dice = Dice(193)
        told = {}
        for game in [COINS, SMALL, BODY] + [dice.game() for _ in range(20)]:
            for _ in range(6):
                tape = Tape(game, tuple(tuple(dice.some(-1, 0, 64) for _ in range(game.seats)) for _ in range(dice.random.randint(0, 2))))
                self.assertEqual(told.setdefault(tape_text(tape), tape), tape)

    def test_refused(self):
        check_order(self, tape_text, (Tape(COINS, ROW),), [TAPES])


class JudgedTest(unittest.TestCase):
    def check(self, text):
        """The text is judged as the naive judge does it."""
        word, game, row, place = naive_judged(text)
        found = judged(text)
        self.assertEqual(found[::2], (word, place), text)
        self.assertEqual(found[1], None if game is None else Tape(game, row))
        self.assertEqual(error_of(tape_of, text), None if word == "whole" else ("ParseError", repr(place)))
        return found

    def test_cut_anywhere(self):
        dice = Dice(194)
        for game, length in [(COINS, 0), (COINS, 3), (SMALL, 20), (SMALL, 21), (BODY, 45), (dice.game(), 5)]:
            tape = Tape(game, row_of(game, length))
            text = tape_text(tape)
            ends = [0]
            for told in parted(text)[0]:
                ends.append(ends[-1] + len(framed(told)))
            for many in range(len(text)):
                whole = sum(end <= many for end in ends) - 1
                words = min(length, max(0, whole - 1) * 20)
                due = tape.until(words) if whole else None
                self.assertEqual(judged(text[:many]), ("cut", due, ends[whole]), many)
                self.assertEqual(error_of(tape_of, text[:many]), ("ParseError", repr(ends[whole])))
            self.assertEqual(judged(text), ("whole", tape, len(text)))

    def test_one_sign_changed(self):
        dice = Dice(195)
        seen = {"whole": 0, "cut": 0, "bent": 0}
        for game, length in [(COINS, 3), (SMALL, 22), (BODY, 1)]:
            text = tape_text(Tape(game, row_of(game, length)))
            for at in range(len(text)):
                for sign in {dice.some(*"0123456789"), dice.some(*":;ist f~"), chr(dice.random.randint(32, 126))} - {text[at]}:
                    seen[self.check(text[:at] + sign + text[at + 1:])[0]] += 1
                seen[self.check(text[:at] + text[at + 1:])[0]] += 1
        self.assertEqual(seen["whole"], 0)
        self.assertTrue(seen["cut"] > 0 and seen["bent"] > 1000, seen)

    def test_frames_doubled_left_out_and_exchanged(self):
        for game, length in [(COINS, 0), (COINS, 2), (SMALL, 20), (SMALL, 41), (BODY, 60)]:
            tape = Tape(game, row_of(game, length))
            parts = [framed(told) for told in parted(tape_text(tape))[0]]
            for at in range(len(parts)):
                self.assertNotEqual(self.check("".join(parts[:at] + parts[at + 1:]))[0], "whole")
                self.assertEqual(self.check("".join(parts[:at + 1] + parts[at:]))[0], "bent")
                for other in range(at):
                    exchanged = list(parts)
                    exchanged[at], exchanged[other] = parts[other], parts[at]
                    self.assertEqual(self.check("".join(exchanged))[0], "bent")
            # What is right ahead of the first wrong frame is told.
            if length == 41:
                ahead = len("".join(parts[:2]))
                self.assertEqual(judged("".join(parts[:2] + parts[3:])), ("bent", tape.until(20), ahead))
                self.assertEqual(judged("".join(parts[:2] + parts[1:])), ("bent", tape.until(20), ahead))
                self.assertEqual(judged("".join(parts[1:])), ("bent", None, 0))

    def test_what_is_behind_the_end(self):
        text = tape_text(Tape(COINS, ROW))
        end = len(text) - len(framed(text_of(("end", 3))))
        for more in ("x", "f", "f1", text, text[end:], " ", frames(("words", 3, ((0, 0),)))):
            self.assertEqual(judged(text + more), ("bent", Tape(COINS, ROW), end))
        self.assertEqual(judged(""), ("cut", None, 0))
        self.assertEqual(judged("f"), ("cut", None, 0))
        self.assertEqual(judged("x"), ("bent", None, 0))

    def bent(self, first, *values):
        """Behind the first frame, which is right, the last of the values is not."""
        right = frames(first, *values[:-1])
        word, tape, place = self.check(right + frames(values[-1]))
        self.assertEqual((word, place), ("bent", len(right)), values[-1])
        return tape

    def test_frames_that_are_not_right(self):
        first, joint = head(COINS), (0, 0)
        for value in ((), None, 0, "words", ("words",), ("words", 0), ("words", 0, ()), ("words", 1, (joint,)), ("words", None, (joint,)), ("words", 0, (joint,) * 21),
                      ("words", 0, ((0,),)), ("words", 0, ((0, 128),)), ("words", 0, ((0, -2),)), ("words", 0, ((0, None),)), ("words", 0, ("ab",)), ("words", 0, joint),
                      ("words", 0, None), ("words", 0, "ab"), ("words", 0, (joint,), 0), ("Words", 0, (joint,)), ("words", "0", (joint,)), ("word", 0, (joint,)),
                      ("end", 1), ("end",), ("end", 0, 0), ("end", None), ("end", "0"), ("end", -1), (("end", 0),), first):
            self.assertEqual(self.bent(first, value), Tape(COINS, ()))
        for many in (1, 19):
            self.bent(first, ("words", 0, (joint,) * many), ("words", many, (joint,)))
            self.bent(first, ("words", 0, (joint,) * many), ("words", 20, (joint,)))
            self.bent(first, ("words", 0, (joint,) * many), ("end", many + 1))
        full = ("words", 0, (joint,) * 20)
        self.assertEqual(self.bent(first, full, ("words", 0, (joint,))), Tape(COINS, (joint,) * 20))
        self.bent(first, full, ("words", 21, (joint,)))
        self.bent(first, full, ("end", 0))
        # 400 joint words in all at the most.
        most = [("words", tick, (joint,) * 20) for tick in range(0, 400, 20)]
        self.bent(first, *most, ("words", 400, (joint,)))
        self.assertEqual(judged(frames(first, *most, ("end", 400)))[0], "whole")

    def test_first_frames_that_are_not_right(self):
        kinds = (("dot", FIELDS, (1, 1, 1)),)
        self.assertEqual(judged(frames(("tape", kinds, *REST), ("end", 0)))[0], "whole")
        for body in (None, (40, 1, 0)):
            self.assertEqual(self.check(frames(("tape", (("dot", FIELDS, body),), *REST), ("end", 0)))[0], "whole")
        for body in ((1, 1, 2), (1, 1, -1), (1, 1, None), (1, 1, "1"), (1, 1), (1, 1, 1, 1), (0, 1, 1), (1, 41, 1), 1, "abc", ()):
            self.assertEqual(self.check(frames(("tape", (("dot", FIELDS, body),), *REST), ("end", 0))), ("bent", None, 0))
        for value in (("tape",), ("tape", kinds, *REST, 0), ("tape", kinds, *REST[:-1]), ("Tape", kinds, *REST), (None, kinds, *REST), ("end", 0), (), 5, "tape", None,
                      ("tape", None, *REST), ("tape", "abc", *REST), ("tape", (), *REST), ("tape", (5,), *REST), ("tape", (("dot", FIELDS),), *REST),
                      ("tape", ((5, FIELDS, None),), *REST), ("tape", (("dot", 5, None),), *REST), ("tape", kinds, 5, *REST[1:]), ("tape", kinds, (5,), *REST[1:]),
                      ("tape", kinds, (), *REST[1:]),
                      ("tape", kinds, REST[0], 5, *REST[2:]), ("tape", kinds, *REST[:2], (0, 1), 1, 7), ("tape", kinds, *REST[:3], 0, 7), ("tape", kinds, *REST[:3], 5, 7),
                      ("tape", kinds, *REST[:4], 999999937), ("tape", kinds, *REST[:4], None), ("tape", kinds * 2, *REST)):
            self.assertEqual(self.check(frames(value, ("end", 0))), ("bent", None, 0))
            self.assertEqual(self.check(frames(value)), ("bent", None, 0))
        # A frame of what is the text of nothing.
        for text in ("", "x", "t1:", text_of(("tape", kinds, *REST)) + "n", "i01;"):
            self.assertEqual(self.check(framed(text)), ("bent", None, 0))
            self.assertEqual(self.check(frames(head(COINS)) + framed(text))[::2], ("bent", len(frames(head(COINS)))))

    def test_random_frames(self):
        dice = Dice(196)
        for _ in range(150):
            game = dice.some(COINS, SMALL, BODY)
            values = naive_values(game, row_of(game, dice.some(0, 1, 20, 25, 40)))
            for _ in range(dice.random.randint(0, 2)):
                at = dice.random.randrange(len(values))
                what = dice.random.randrange(4)
                if what == 0:
                    del values[at]
                elif what == 1:
                    values.insert(at, dice.some(*values))
                elif what == 2:
                    values[at] = dice.some(("words", 20, ((0, 0),)), ("end", 20), ("end", 0), head(COINS), values[at][:-1])
                else:
                    values.append(dice.some(*values))
                values = values or [("end", 0)]
            text = frames(*values)
            self.check(text[:dice.some(len(text), len(text), dice.random.randint(0, len(text)))])

    def test_refused(self):
        for value in [value for value in JUNK if not isinstance(value, str)] + ["a\nb", "\x7f", "\xe9", "~" * 20001]:
            self.assertEqual((error_of(judged, value), error_of(tape_of, value)), (("InvalidText",),) * 2)
        self.assertEqual(judged("~" * 20000), ("bent", None, 0))
        self.assertEqual(error_of(tape_of, "~" * 20000), ("ParseError", "0"))


class SeekerTest(unittest.TestCase):
    def test_seeking(self):
        dice = Dice(197)
        for _ in range(30):
            game = dice.some(COINS, SMALL, dice.game())
            tape = Tape(game, tuple(dice.joint(game) for _ in range(dice.random.randint(0, 12))))
            worlds = list(plain_worlds(game, tape.row))
            for spacing in (1, 2, 3, 5, 12, 13, 100):
                seeker = Seeker(tape, spacing=spacing)
                self.assertEqual((seeker.spacing, seeker.ticks), (spacing, tuple(tick for tick in range(len(tape) + 1) if tick % spacing == 0)))
                for tick, world in enumerate(worlds):
                    kept = max(at for at in seeker.ticks if at <= tick)
                    self.assertEqual((seeker.world(tick), seeker.work(tick)), (world, tick - kept))

    def test_spacings(self):
        tape = Tape(SMALL, row_of(SMALL, 101))
        self.assertEqual(Seeker(tape).spacing, 10)
        self.assertEqual(Seeker(tape).ticks, tuple(range(0, 102, 10)))
        self.assertEqual(Seeker(tape, spacing=100).ticks, (0, 100))
        self.assertEqual(Seeker(tape, spacing=1).ticks, tuple(range(102)))
        self.assertEqual([Seeker(tape, spacing=100).work(tick) for tick in (0, 99, 100, 101)], [0, 99, 0, 1])

    def test_refused(self):
        spacings = [(value, number_error(value)) for value in (0, 101, -1, True, False, None, "10", 10 ** 60, (1,), [1])]
        check_order(self, Seeker, (Tape(COINS, ROW), 3), [TAPES, spacings], ("spacing",))
        for spacing in (1, 100):
            self.assertIsNone(error_of(Seeker, Tape(COINS, ROW), spacing=spacing))
        seeker = Seeker(Tape(COINS, ROW), spacing=2)
        for call in (seeker.world, seeker.work):
            refused_all(self, call, "InvalidNumber")
            self.assertEqual([error_of(call, tick) for tick in range(-1, 5)], [number_error(-1)] + [None] * 4 + [number_error(4)])
        with self.assertRaises(TypeError):
            list(seeker)


class TwoTapesTest(unittest.TestCase):
    def test_where_they_part(self):
        dice = Dice(198)
        seen = {"equal": 0, "longer": 0, "unlike": 0, "worlds": 0, "none": 0}
        for _ in range(150):
            game = dice.some(COINS, SMALL, dice.game())
            row = tuple(dice.joint(game) for _ in range(dice.random.randint(0, 7)))
            other = list(row[:dice.some(7, 7, dice.random.randint(0, 7))])
            if other and dice.random.random() < 0.6:
                other[dice.random.randrange(len(other))] = dice.joint(game)
            one, two = Tape(game, row), Tape(game, tuple(other))
            padded = [(row[at:at + 1], two.row[at:at + 1]) for at in range(8)]
            due = next((at for at, (joint, further) in enumerate(padded) if joint != further), None)
            self.assertEqual((first_unlike(one, two), first_unlike(two, one)), (due, due))
            worlds = [(one.world(tick), two.world(tick)) for tick in range(min(len(one), len(two)) + 1)]
            part = next((tick for tick, (world, further) in enumerate(worlds) if world != further), None)
            self.assertEqual((worlds_part(one, two), worlds_part(two, one)), (part, part))
            # Worlds are equal up to the first unlike joint words, and at it.
            self.assertTrue(part is None or part > due)
            seen["equal"] += due is None
            seen["longer"] += due is not None and due == min(len(one), len(two))
            seen["unlike"] += due is not None and due < min(len(one), len(two))
            seen["worlds"] += part is not None
            seen["none"] += part is None and due is not None
        self.assertGreater(min(seen.values()), 10, seen)

    def test_the_last_tick_counts(self):
        one, two = Tape(SMALL, ((0, 0), (1, 0))), Tape(SMALL, ((0, 0), (0, 0)))
        self.assertEqual((first_unlike(one, two), worlds_part(one, two)), (1, 2))
        self.assertEqual((first_unlike(one, two.until(1)), worlds_part(one, two.until(1))), (1, None))
        # A filled entry is unlike a said one, but the same is heard of both.
        self.assertEqual((first_unlike(one, Tape(SMALL, ((0, 0), (65, 0)))), worlds_part(one, Tape(SMALL, ((0, 0), (65, 0))))), (1, None))
        self.assertEqual((first_unlike(Tape(SMALL, ()), Tape(SMALL, ())), worlds_part(Tape(SMALL, ()), Tape(SMALL, ()))), (None, None))

    def test_refused(self):
        others = [*TAPES, (Tape(SMALL, ()), ("InvalidOperation",))]
        for function in (first_unlike, worlds_part):
            check_order(self, function, (Tape(COINS, ROW), Tape(COINS, ())), [TAPES, others])
            self.assertEqual(error_of(function, Tape(SMALL, ()), Tape(COINS, ())), ("InvalidOperation",))
            luck = Game(COINS.kinds, COINS.entries, COINS.start, arena=(12, 6), luck=1)
            self.assertEqual(error_of(function, Tape(COINS, ()), Tape(luck, ())), ("InvalidOperation",))


class NotTrueTest(unittest.TestCase):
    def test_what_is_not_true(self):
        # Tapes whose worlds are equal at the last tick are equal.
        one, two = Tape(SMALL, ((1, 0), (0, 0))), Tape(SMALL, ((0, 0), (1, 0)))
        self.assertEqual((one.world(2) == two.world(2), one == two, worlds_part(one, two)), (True, False, 1))
        # A bent text tells no tape.
        self.assertEqual(judged(frames(head(COINS)) + "x"), ("bent", Tape(COINS, ()), len(frames(head(COINS)))))


if __name__ == "__main__":
    unittest.main()
