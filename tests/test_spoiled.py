"""Right values with something else at one place in them, however deep these are.

What is judged gets an answer [0.5]; all else is taken, or refused with an error of the package [0.4]. Python's own errors
never come out.
"""

import unittest

from helper import COINS, GRAB, KINDS, PAIR, ROW, START, error_of, spoiled
from settledplay.arena.boxes import are_meeting, barrier, moved_box, reach, reach_by_units
from settledplay.base.texts import framed, is_plain, text_of
from settledplay.check.prints import first_stray, halved, is_print_paper, is_stray_paper, stray_paper, world_print
from settledplay.disk.book import Disk, is_left_by, read_record, record_text, with_tick
from settledplay.keep.parts import applied, is_difference, size
from settledplay.match.bounds import even_row, even_schedule
from settledplay.match.effects import Ear, changed, effect_change, effects_of, is_lot, tellings
from settledplay.match.match import Standing, each_standing, is_act, run
from settledplay.net.bag import Bag, judged_handing
from settledplay.net.letters import is_letter
from settledplay.play import keys, step
from settledplay.play.again import again, again_row, changed_places, unlike_places
from settledplay.play.keys import Setup
from settledplay.play.timeline import Timeline, viewed
from settledplay.rules import runs
from settledplay.rules.forms import Game, game_fault
from settledplay.seat.host import Host, is_filled, is_silent
from settledplay.seat.joining import Gathering, gathered, offer
from settledplay.seat.player import Player
from settledplay.tape.tapes import Tape, judged, tape_text, values_of
from settledplay.world.worlds import World, first_world, made

OPEN = first_world(COINS)
JOINT = (2, 1)
WORLDS = tuple(step.plain_worlds(COINS, ROW))
STRAY = WORLDS[:2] + (OPEN,)
# Each kind of statement, and each kind of expression.
EACH = ("each", "coin", "c", (("give", "c", "x", ("count", "hero", "e", ("of", "e", "x"))), ("drop", "c")))
MAKE = ("make", "coin", (("x", ("draw", 6)), ("y", ("plus", ("id",), ("tick",)))))
WHEN = ("when", ("less", ("var", "a"), ("own", "x")), (MAKE,), (("tell", 3, ("if", ("not", 0), ("tick",), ("key", 2))),))
RICH = (("for", "hero", (("let", "a", 5), WHEN, EACH, ("set", "dy", ("var", "a")))), ("move",), ("for", "coin", (GRAB,)))
RECORD = runs.run(COINS, OPEN, JOINT, 1, 0)
READS = (
    (("field", 0, "seat"), 0), (("ids", "hero"), (0, 1)), (("key", 0), 2), (("kind", 0), "hero"), (("luck",), 5), (("many",), 3), (("next",), 3),
    (("tick",), 4),
)
WIDE = (0, 0, READS, ((0, "dx", 1), (1, "x", 4)), ((3, "coin", (1, 2, 3, 4)),), ((2, "coin"),), 1, ((1, 0), (2, 5)))
DIFFERENCE = (5, 5, 9, (1, 2), ((3, "coin", (7, 1, 0, 0)), (4, "hero", (1, 2, 3, 4, 0))), ((0, 0, 3), (0, 2, 1)))
LOT = ((0, 0, 1, 5), (0, 1, 2, 6), (3, 0, 4, -7))
ACTS = (("beat", 1, 3), ("beat", 0, 2), ("hand", 0), ("tell",), ("hand", 1), ("fall", 1, 3), ("come", 1), ("go", 1))
LETTERS = (("keys", 1, 3, (0, 5), 77), ("rows", 1, 0, ((0, 5), (64, -1))), ("piece", 1, 7, 1, 3, "a b"), ("word", 1, "come"))
PIECES = (("piece", 1, 0, 0, 2, "a"), ("piece", 1, 0, 1, 2, "b"), ("piece", 1, 4, 0, 1, "c"))
BAG = Bag(LETTERS)
WORDS = ((2, 0), (2, 1), (0, 1))
LATE = Setup(COINS, starters=(0,))
ARENA, BOX, BOXES = (12, 6), (1, 1, 2, 2), ((5, 0, 1, 4), (1, 1, 1, 1))

# Functions that judge their last argument, and arguments that are judged to be right.
JUDGES = (
    (is_plain, (1, "a", None, (2, ()))),
    (runs.is_record, COINS, OPEN, JOINT, RECORD),
    (step.is_joint, COINS, JOINT),
    (step.is_row, COINS, ROW),
    (is_difference, DIFFERENCE),
    (keys.is_row, PAIR, ROW),
    *[(is_letter, letter) for letter in LETTERS],
    *[(is_act, PAIR, act) for act in ACTS],
    (is_lot, LOT),
    (is_stray_paper, COINS, ROW, STRAY, ("step", 2, 0)),
    (is_print_paper, COINS, ROW, ("print", 0, 5, world_print(OPEN))),
)
# Calls, each with arguments that are taken; only the tuples among these are spoiled.
CALLS = (
    (text_of, (1, "a", None, (2, ()))),
    (World, 4, 3, 9, OPEN.things),
    (made, OPEN, "coin", (1, 2, 3, 4)),
    (are_meeting, BOX, BOXES[0]),
    (reach, ARENA, BOX, BOXES, "right", 9),
    (reach_by_units, ARENA, BOX, BOXES, "right", 9),
    (barrier, ARENA, BOX, BOXES, "right", 9),
    (moved_box, ARENA, BOX, BOXES, 3, 9),
    *[(runs.value_at, COINS, OPEN, JOINT, place) for place, _ in READS],
    (runs.has_same_reads, COINS, OPEN, JOINT, WIDE),
    (runs.put_on, COINS, OPEN, WIDE),
    (step.step, COINS, OPEN, JOINT),
    (step.next_world, COINS, OPEN, JOINT),
    (step.plain, COINS, ROW),
    (lambda row: list(step.plain_worlds(COINS, row)), ROW),
    (unlike_places, COINS, OPEN, JOINT, WORLDS[1], (0, 0)),
    (changed_places, COINS, WIDE),
    (applied, OPEN, DIFFERENCE),
    (size, DIFFERENCE),
    (lambda starters, guesses: Setup(COINS, starters=starters, guesses=guesses), (0, 1), (0, 1, 2, 3) * 16),
    (keys.heard, JOINT),
    (keys.stay, PAIR, ROW, 1),
    (keys.guess, PAIR, ROW, 1),
    (keys.used, PAIR, ROW, 0, {3: 5}, 4),
    (keys.joined, PAIR, ROW, 2, ((0, 65), (1, 1))),
    (keys.first_change, PAIR, ROW, ROW + ((1, 1),), 0, {3: 4}, 9),
    (Timeline(PAIR, 0).told, 0, ROW),
    (viewed, PAIR, 0, ROW, {3: 3}, 6),
    (Bag, LETTERS),
    (Bag().sent_all, LETTERS),
    (judged_handing, BAG, (1, 2, 0, 2)),
    *[(Bag().sent, letter) for letter in LETTERS],
    *[(Player(PAIR, 1).heard, letter) for letter in LETTERS],
    *[(Player(LATE, 1).come().heard, letter) for letter in LETTERS],
    *[(Host(PAIR).beat(2).heard, letter) for letter in (LETTERS[0], LETTERS[3])],
    (Gathering(LATE, 1).heard, LETTERS[2]),
    (gathered, LATE, 1, PIECES),
    (Host.of_row, PAIR, ROW),
    (is_filled, PAIR, ROW, 1, 1),
    (is_silent, PAIR, ROW, 1),
    (lambda blocks: Disk(blocks, 1), ("0:0,3;", "1:2,67;")),
    (record_text, 5, JOINT),
    (with_tick, Disk(), 5, JOINT),
    *[(Standing(PAIR).after(ACTS[0]).after, act) for act in ACTS[:4] + ACTS[5:]],
    (run, PAIR, ACTS),
    (lambda acts: list(each_standing(PAIR, acts)), ACTS),
    (effects_of, COINS, ROW),
    (lambda row: list(tellings(COINS, row)), ROW),
    (effect_change, LOT, LOT[1:]),
    (changed, LOT, LOT[:1], ((0, 0, 5, 5),)),
    (Ear().heard, 0, ((1, 5), (2, 6))),
    (Tape, COINS, ROW),
    (first_stray, COINS, ROW, STRAY),
    (stray_paper, COINS, ROW, STRAY),
    (halved, (5, 7, 9), (5, 7, 1)),
    (even_schedule, PAIR, 1, WORDS),
    (even_row, PAIR, 1, WORDS),
)


def spoiled_calls(args):
    """The arguments with one of the tuples among them spoiled."""
    for at, value in enumerate(args):
        if isinstance(value, tuple):
            for other in spoiled(value):
                yield (*args[:at], other, *args[at + 1:])


class SpoiledTest(unittest.TestCase):
    def test_what_is_judged(self):
        for judge, *args in JUDGES:
            self.assertIs(judge(*args), True, (judge, args))
            found = [judge(*args[:-1], other) for other in spoiled(args[-1])]
            self.assertIn(False, found)
            self.assertTrue(all(answer is True or answer is False for answer in found), judge)

    def test_what_is_judged_with_any_value(self):
        disk = Disk(("0:0,3;", "1:2,67;"), 1)
        for other in spoiled((disk, ROW)):
            self.assertIs(is_left_by(disk, other), False)
            self.assertIs(step.is_next(COINS, OPEN, JOINT, other), False)
            if not isinstance(other, str):
                self.assertIsNone(read_record(other))

    def test_calls(self):
        for call, *args in CALLS:
            self.assertIsNone(error_of(call, *args), (call, args))
            found = [error_of(call, *other) for other in spoiled_calls(args)]
            self.assertGreater(len([error for error in found if error is not None]), len(found) // 4, call)

    def test_games(self):
        """A game has a fault exactly if it is refused, and the fault names the part in which something else stands."""
        parts = (KINDS, RICH, START, (12, 6))
        self.assertIsNone(game_fault(*parts[:3], arena=parts[3]))
        for at, name in enumerate(("kinds", "entries", "start", "arena")):
            for other in spoiled(parts[at]):
                told = (*parts[:at], other, *parts[at + 1:])
                fault = game_fault(*told[:3], arena=told[3])
                # Where a part goes wrong, so can those behind it that need it.
                self.assertTrue(fault is None or fault[0] == name or name == "kinds", fault)
                refused = error_of(Game, *told[:3], arena=told[3])
                self.assertEqual(refused, None if fault is None else ("InvalidGame",))

    def test_records(self):
        """Whatever no run could have done is refused [8.1]; what has the form of a record is unspecified there."""
        for other in spoiled(WIDE):
            if error_of(changed_places, COINS, other) == ("InvalidRecord",):
                self.assertEqual(error_of(again, COINS, (other, RECORD), OPEN, JOINT), ("InvalidRecord",))
                self.assertEqual(error_of(again_row, COINS, ((RECORD,), (other,)), OPEN, ROW), ("InvalidRecord",))

    def test_frames_of_tapes(self):
        """A text of frames is that of a tape, or bent where the first frame stands that goes wrong."""
        tape = Tape(COINS, ROW)
        values = values_of(tape)
        self.assertEqual(judged("".join([framed(text_of(value)) for value in values])), ("whole", tape, len(tape_text(tape))))
        for at, value in enumerate(values):
            for other in spoiled(value):
                if is_plain(other):
                    frames = [framed(text_of(told)) for told in (*values[:at], other, *values[at + 1:])]
                    word, told, place = judged("".join(frames))
                    if word == "whole":
                        self.assertEqual(tape_text(told), "".join(frames))
                    else:
                        wrong = [k for k in range(len(frames)) if place == len("".join(frames[:k]))]
                        self.assertEqual((word, len(wrong), told is None), ("bent", 1, wrong == [0]))
                        self.assertGreaterEqual(wrong[0], at)


if __name__ == "__main__":
    unittest.main()
