"""What all seats of a match have in common, and the rows of what they said."""

from settledplay.base.checks import is_whole, is_within, need_whole
from settledplay.errors import InvalidNumber, InvalidOperation, InvalidRow, InvalidSetup, InvalidWord, Refused
from settledplay.keep.ring import MOST_SPACING
from settledplay.rules.forms import need_game
from settledplay.rules.joints import WORDS, is_entry_of_seat, is_joint_of

AWAY = -1
MOST_WORD = 63
FILLED = 64
MAX_WINDOW = 12
MAX_DELAY = 8

MAX_PATIENCE = 20
MAX_SILENCE = 20
MAX_LOOKERS = 2


class Setup:
    """What all seats of a match have in common."""

    def __init__(
        self, game, *, window=4, delay=2, spacing=2, patience=3, silence=6, starters=None, lookers=0, guesses=None
    ):
        need_game(game)
        need_bound(window, 1, MAX_WINDOW)
        need_bound(delay, 0, MAX_DELAY)
        need_bound(spacing, 1, MOST_SPACING)
        need_bound(patience, 1, MAX_PATIENCE)
        need_bound(silence, 1, MAX_SILENCE)
        if starters is not None and not are_starters(game, starters):
            raise InvalidSetup("starters are an ascending tuple of seats, 0 among them")
        need_bound(lookers, 0, MAX_LOOKERS)
        if guesses is not None and not are_guesses(guesses):
            raise InvalidSetup("guesses are a tuple of 64 key words")
        self.game = game
        self.window = window
        self.delay = delay
        self.spacing = spacing
        self.patience = patience
        self.silence = silence
        self.starters = tuple(range(game.seats)) if starters is None else starters
        self.lookers = lookers
        self.guesses = tuple(range(WORDS)) if guesses is None else guesses
        self.seats = game.seats

    def __eq__(self, other):
        return isinstance(other, Setup) and properties_of(self) == properties_of(other)


def properties_of(setup):
    """All that a setup is told by."""
    bounds = (setup.window, setup.delay, setup.spacing, setup.patience, setup.silence, setup.lookers)
    return (setup.game, bounds, setup.starters, setup.guesses)


def need_bound(value, low, high):
    """Refuse what is no number of a setup within its bounds."""
    if not is_within(value, low, high):
        raise InvalidSetup("a number of the setup is out of its bounds")


def are_starters(game, value):
    """Whether the value is an ascending tuple of seats of the game, 0 among them."""
    if not isinstance(value, tuple) or not all([is_within(seat, 0, game.seats - 1) for seat in value]):
        return False
    return 0 in value and all([low < high for low, high in zip(value, value[1:])])


def are_guesses(value):
    """Whether the value has a guess for each key word."""
    return isinstance(value, tuple) and len(value) == WORDS and all([is_word(word) for word in value])


def is_word(value):
    """Whether the value is a key word."""
    return is_within(value, 0, MOST_WORD)


def need_word(value):
    """Refuse what is no key word."""
    if not is_word(value):
        raise InvalidWord("a key word is an integer from 0 to 63")


def need_setup(value):
    """Refuse what is no setup."""
    if not isinstance(value, Setup):
        raise InvalidSetup("a setup is an object of its class")


def need_seat(setup, value):
    """Refuse what is no seat."""
    if not is_within(value, 0, setup.seats - 1):
        raise InvalidNumber(value)


def need_seat_or_looker(setup, value):
    """Refuse what is neither a seat nor None, for a looker-on."""
    if value is not None:
        need_seat(setup, value)


def need_own(value):
    """Refuse what tells no own words."""
    if not isinstance(value, dict) or not all([is_whole(tick) and is_word(word) for tick, word in value.items()]):
        raise InvalidOperation("own words are told by a dict from ticks to key words")


def is_joint_of_match(setup, value):
    """Whether the value is a joint word of which the seat 0 is in."""
    return is_joint_of(setup.game, value) and value[0] != AWAY


def is_row_of_match(setup, value):
    """Whether the value is a row in which each seat has one stay at the most."""
    if not isinstance(value, tuple) or not all([is_joint_of_match(setup, joint) for joint in value]):
        return False
    return all([has_one_stay(setup, value, seat) for seat in range(setup.seats)])


def has_one_stay(setup, row, seat):
    """Whether a seat does not come back in a row."""
    ticks = [tick for tick, joint in enumerate(row) if joint[seat] != AWAY]
    if len(ticks) == 0:
        return True
    return ticks[-1] - ticks[0] == len(ticks) - 1 and (ticks[0] == 0 or seat not in setup.starters)


def can_follow(setup, row, joint):
    """Whether a sure row stays a row of the match with this behind it."""
    if not is_joint_of_match(setup, joint):
        return False
    return all([joint[seat] == AWAY or stay_behind(setup, row, seat) != "out" for seat in range(setup.seats)])


def need_row_of_match(setup, value):
    """Refuse what is no row of a match."""
    if not is_row_of_match(setup, value):
        raise InvalidRow("in a row of a match each seat has one stay")


def is_row(setup, value):
    """Whether the value is a row of a match."""
    need_setup(setup)
    return is_row_of_match(setup, value)


def heard(joint):
    """What is heard of entries."""
    if not isinstance(joint, tuple) or not all([is_entry_of_seat(entry) for entry in joint]):
        raise InvalidRow("words are heard of a tuple of entries from -1 to 127")
    return heard_of(joint)


def heard_of(joint):
    """What is heard of sure entries."""
    return tuple([AWAY if entry == AWAY else entry % WORDS for entry in joint])


def stay(setup, row, seat):
    """Whether a seat is in, out, or ahead of its stay behind a row."""
    need_setup(setup)
    need_row_of_match(setup, row)
    need_seat(setup, seat)
    return stay_behind(setup, row, seat)


def stay_behind(setup, row, seat):
    """The word for how a seat stands behind a row."""
    if len(row) == 0:
        return "in" if seat in setup.starters else "ahead"
    if row[-1][seat] != AWAY:
        return "in"
    was_in = seat in setup.starters or any([joint[seat] != AWAY for joint in row])
    return "out" if was_in else "ahead"


def guess(setup, row, seat):
    """The guess for a seat behind a row."""
    need_setup(setup)
    need_row_of_match(setup, row)
    need_seat(setup, seat)
    return guess_behind(setup, row, seat)


def guess_behind(setup, row, seat):
    """The guess for a sure seat behind a sure row."""
    if stay_behind(setup, row, seat) != "in":
        return AWAY
    return setup.guesses[0 if len(row) == 0 else row[-1][seat] % WORDS]


def used(setup, row, seat, own, tick):
    """The words that are used at a tick by who sits at a seat."""
    need_setup(setup)
    need_row_of_match(setup, row)
    need_seat_or_looker(setup, seat)
    need_own(own)
    need_whole(tick)
    return used_at(setup, row, seat, own, tick)


def used_at(setup, row, seat, own, tick):
    """The used words for sure arguments."""
    if tick < len(row):
        return heard_of(row[tick])
    return used_behind(setup, row, seat, own.get(tick, 0))


def used_behind(setup, row, seat, word):
    """The words that are used behind a row, when the own word is told."""
    words = [guess_behind(setup, row, other) for other in range(setup.seats)]
    if seat is not None and words[seat] != AWAY:
        words[seat] = word
    return tuple(words)


def joined(setup, row, first, words):
    """The row with a stretch."""
    need_setup(setup)
    need_row_of_match(setup, row)
    need_whole(first)
    if not isinstance(words, tuple) or not all([is_joint_of_match(setup, joint) for joint in words]):
        raise InvalidRow("a stretch is a tuple of joint words")
    if first > len(row):
        raise Refused(("hole", len(row)))
    for at, (one, other) in enumerate(zip(row[first:], words)):
        if one != other:
            raise Refused(("unlike", first + at))
    longer = row + words[len(row) - first:]
    need_row_of_match(setup, longer)
    return longer


def first_change(setup, row, later, seat, own, stop):
    """The first tick below a bound at which the growth of a row changes the used words, or None."""
    need_setup(setup)
    need_row_of_match(setup, row)
    need_row_of_match(setup, later)
    need_seat_or_looker(setup, seat)
    need_own(own)
    need_whole(stop)
    if later[:len(row)] != row:
        raise InvalidOperation("the later row does not begin with the row")
    # Behind the later row the words differ at each tick or at none, so its end speaks for all further ticks.
    for tick in range(len(row), min(stop, len(later) + 1)):
        if used_at(setup, row, seat, own, tick) != used_at(setup, later, seat, own, tick):
            return tick
    return None
