"""Joint words: what a step hears of each seat at a tick."""

from settledplay.base.checks import is_within
from settledplay.errors import InvalidRow, InvalidWord
from settledplay.rules.forms import MAX_SEATS

MOST_ENTRY = 127
WORDS = 64


def is_entry_of_seat(value):
    """Whether the value tells how a seat can count at a tick."""
    return is_within(value, -1, MOST_ENTRY)


def is_joint_of(game, value):
    """Whether the value is a tuple with an entry for each seat of the game."""
    if not isinstance(value, tuple) or len(value) != game.seats:
        return False
    return all([is_entry_of_seat(entry) for entry in value])


def is_joint_of_some(value):
    """Whether the value is a joint word of some game."""
    if not isinstance(value, tuple) or not 1 <= len(value) <= MAX_SEATS:
        return False
    return all([is_entry_of_seat(entry) for entry in value])


def is_row_of(game, value):
    """Whether the value is a tuple of joint words of the game."""
    return isinstance(value, tuple) and all([is_joint_of(game, joint) for joint in value])


def need_joint(game, value):
    """Refuse what is no joint word of the game."""
    if not is_joint_of(game, value):
        raise InvalidWord("a joint word has an entry from -1 to 127 for each seat")


def need_row(game, value):
    """Refuse what is no row of joint words of the game."""
    if not is_row_of(game, value):
        raise InvalidRow("a row is a tuple of joint words of the game")


def heard_word(joint, seat):
    """The word that a step hears of a seat, None if there is no such seat."""
    if not 0 <= seat < len(joint):
        return None
    return 0 if joint[seat] == -1 else joint[seat] % WORDS
