"""Letters between the host and the other machines."""

from settledplay.base.checks import is_whole, is_within
from settledplay.base.texts import has_signs, text_of, value_of
from settledplay.check.prints import is_print
from settledplay.errors import InvalidLetter, ParseError
from settledplay.play.keys import is_word
from settledplay.rules.joints import is_joint_of_some

HOST = -1
MOST_SEAT = 5
MOST_WORDS = 20
MOST_STRETCH = 32
MOST_PIECES = 100
MOST_PIECE = 200

WISHES = ("come", "go")
# The letters that the host is to hear.
TO_HOST = ("keys", "word")


def is_keys_letter(value):
    """Whether what follows the word and the seat is that of a keys letter."""
    if len(value) != 5:
        return False
    _, _, first, words, print_of_world = value
    if not is_whole(first) or not is_print(print_of_world):
        return False
    return isinstance(words, tuple) and len(words) <= MOST_WORDS and all([is_word(word) for word in words])


def is_rows_letter(value):
    """Whether what follows the word and the seat is that of a rows letter."""
    if len(value) != 4:
        return False
    _, _, first, entries = value
    if not is_whole(first) or not isinstance(entries, tuple) or len(entries) > MOST_STRETCH:
        return False
    # All are known to be tuples ahead of the question how long they are.
    if not all([is_joint_of_some(joint) for joint in entries]):
        return False
    return all([len(joint) == len(entries[0]) for joint in entries])


def is_piece_letter(value):
    """Whether what follows the word and the seat is that of a piece letter."""
    if len(value) != 6:
        return False
    _, _, tick, index, many, text = value
    if not is_whole(tick) or not is_within(many, 1, MOST_PIECES) or not is_within(index, 0, many - 1):
        return False
    return has_signs(text, 1, MOST_PIECE)


def is_word_letter(value):
    """Whether what follows the word and the seat is that of a word letter."""
    return len(value) == 3 and isinstance(value[2], str) and value[2] in WISHES


FORMS = {
    "keys": is_keys_letter,
    "rows": is_rows_letter,
    "piece": is_piece_letter,
    "word": is_word_letter,
}


def is_letter(value):
    """Whether the value is a letter."""
    if not isinstance(value, tuple) or len(value) < 2 or not isinstance(value[0], str):
        return False
    if value[0] not in FORMS or not is_within(value[1], 1, MOST_SEAT):
        return False
    action = FORMS[value[0]]
    return action(value)


def need_letter(value):
    """Refuse what is no letter."""
    if not is_letter(value):
        raise InvalidLetter("this is no letter")


def goal(letter):
    """Who is to hear a letter."""
    need_letter(letter)
    return goal_of(letter)


def goal_of(letter):
    """Who is to hear what surely is a letter."""
    return HOST if letter[0] in TO_HOST else letter[1]


def letter_text(letter):
    """The text of a letter."""
    need_letter(letter)
    return text_of(letter)


def read_letter(text):
    """The letter with a text."""
    try:
        letter = value_of(text)
    except ParseError:
        raise InvalidLetter("this is the text of nothing") from None
    need_letter(letter)
    return letter
