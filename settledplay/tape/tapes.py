"""Tapes: a game and a row of it, their text, and how a tick of them is sought."""

from settledplay.base.checks import is_within, need_within
from settledplay.base.texts import frame_of, need_short, need_text, text_in_frame, text_of, value_of, word_of_rest
from settledplay.errors import InvalidGame, InvalidOperation, InvalidTape, ParseError, TooMany
from settledplay.play.step import behind_words, stepped
from settledplay.rules.forms import Game, need_game
from settledplay.rules.joints import is_row_of, need_row
from settledplay.world.worlds import first_world

MOST_TICKS = 400
WORDS_A_FRAME = 20

MOST_SPACING = 100


class Tape:
    """A game and a row of it."""

    def __init__(self, game, row):
        need_game(game)
        need_row(game, row)
        if len(row) > MOST_TICKS:
            raise TooMany(MOST_TICKS)
        self.game = game
        self.row = row

    def world(self, tick):
        """The world of a tick."""
        need_within(tick, 0, len(self.row))
        return behind_words(self.game, first_world(self.game), self.row[:tick])

    def until(self, tick):
        """The tape with the joint words ahead of a tick."""
        need_within(tick, 0, len(self.row))
        return Tape(self.game, self.row[:tick])

    def __len__(self):
        return len(self.row)

    def __eq__(self, other):
        return isinstance(other, Tape) and self.row == other.row and self.game == other.game

    def __str__(self):
        return f"tape of {len(self.row)} ticks"


def need_tape(value):
    """Refuse what is no tape."""
    if not isinstance(value, Tape):
        raise InvalidTape("a tape is an object of its class")


def tape_text(tape):
    """The text of a tape."""
    need_tape(tape)
    frames = [frame_of(text_of(value)) for value in values_of(tape)]
    text = "".join(frames)
    need_short(text)
    return text


def values_of(tape):
    """The values that the frames of a tape tell."""
    game = tape.game
    words = [
        ("words", first, tape.row[first:first + WORDS_A_FRAME]) for first in range(0, len(tape.row), WORDS_A_FRAME)
    ]
    head = ("tape", told_kinds(game.kinds), game.entries, game.start, game.arena, game.seats, game.luck)
    return [head, *words, ("end", len(tape.row))]


def told_kinds(kinds):
    """The kinds of a game, with 1 and 0 for True and False."""
    return tuple([(name, fields, told_body(body)) for name, fields, body in kinds])


def told_body(body):
    """A body, with 1 and 0 for True and False."""
    return None if body is None else (*body[:2], int(body[2]))


def meant_kinds(value):
    """The kinds that a value tells, with True and False again; what tells none stays as it is."""
    if not isinstance(value, tuple):
        return value
    return tuple([meant_kind(kind) for kind in value])


def meant_kind(value):
    """The kind that a value tells, with True or False again; what tells none stays as it is."""
    if not isinstance(value, tuple) or len(value) != 3:
        return value
    name, fields, body = value
    if not isinstance(body, tuple) or len(body) != 3 or not is_within(body[2], 0, 1):
        return value
    return (name, fields, (*body[:2], body[2] == 1))


def meant_game(value):
    """The game that the value of a first frame tells, None if it tells none."""
    if not is_told(value, "tape", 7):
        return None
    _, kinds, entries, start, arena, seats, luck = value
    try:
        return Game(meant_kinds(kinds), entries, start, arena=arena, seats=seats, luck=luck)
    except InvalidGame:
        return None


def is_told(value, word, length):
    """Whether a plain value is a tuple of this length that begins with the word."""
    return isinstance(value, tuple) and len(value) == length and value[0] == word


def value_in_frame(text):
    """The value of the text of a frame; (), which no right frame tells, if it is the text of nothing."""
    try:
        return value_of(text)
    except ParseError:
        return ()


def is_next_words(game, row, value):
    """Whether the value of a frame tells the joint words that can stand behind a row."""
    if not is_told(value, "words", 3) or value[1] != len(row) or len(row) % WORDS_A_FRAME != 0:
        return False
    words = value[2]
    return is_row_of(game, words) and 1 <= len(words) <= min(WORDS_A_FRAME, MOST_TICKS - len(row))


def judged(text):
    """The word for a text, the tape that its right frames tell, and where these end."""
    need_text(text)
    game = None
    row = ()
    at = 0
    told = text_in_frame(text, at)
    while told is not None:
        value = value_in_frame(told)
        behind = at + len(frame_of(told))
        if game is None:
            game = meant_game(value)
            if game is None:
                return ("bent", None, 0)
        elif is_next_words(game, row, value):
            row = row + value[2]
        elif value == ("end", len(row)) and behind == len(text):
            return ("whole", Tape(game, row), behind)
        else:
            return ("bent", Tape(game, row), at)
        at = behind
        told = text_in_frame(text, at)
    word = "bent" if word_of_rest(text[at:]) == "bent" else "cut"
    return (word, None if game is None else Tape(game, row), at)


def tape_of(text):
    """The tape of a text."""
    word, tape, place = judged(text)
    if word != "whole":
        raise ParseError(place)
    return tape


class Seeker:
    """A tape with some of its worlds."""

    def __init__(self, tape, *, spacing=10):
        need_tape(tape)
        need_within(spacing, 1, MOST_SPACING)
        self.tape = tape
        self.spacing = spacing
        self.ticks = tuple(range(0, len(tape.row) + 1, spacing))
        world = first_world(tape.game)
        worlds = [world]
        for tick in self.ticks[1:]:
            world = behind_words(tape.game, world, tape.row[tick - spacing:tick])
            worlds.append(world)
        self.worlds = tuple(worlds)

    def world(self, tick):
        """The world of a tick."""
        kept = tick - self.work(tick)
        return behind_words(self.tape.game, self.worlds[kept // self.spacing], self.tape.row[kept:tick])

    def work(self, tick):
        """How many steps are done for the world of a tick."""
        need_within(tick, 0, len(self.tape.row))
        return tick % self.spacing


def need_tapes_of_one_game(one, other):
    """Refuse what is no tape, and then tapes of unlike games."""
    need_tape(one)
    need_tape(other)
    if one.game != other.game:
        raise InvalidOperation("the tapes have unlike games")


def first_unlike(one, other):
    """The first tick whose joint words are unlike, or which one of two tapes alone has; None for equal ones."""
    need_tapes_of_one_game(one, other)
    for tick, (joint, further) in enumerate(zip(one.row, other.row)):
        if joint != further:
            return tick
    return None if len(one.row) == len(other.row) else min(len(one.row), len(other.row))


def worlds_part(one, other):
    """The first tick of both tapes at which their worlds are unlike, None if there is none."""
    need_tapes_of_one_game(one, other)
    world = first_world(one.game)
    further = world
    for tick, (joint, other_joint) in enumerate(zip(one.row, other.row), start=1):
        world = stepped(one.game, world, joint)[0]
        further = stepped(one.game, further, other_joint)[0]
        if world != further:
            return tick
    return None
