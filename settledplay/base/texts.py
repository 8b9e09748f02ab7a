"""Texts of plain values, and frames that show where a text ends."""

from settledplay.base.checks import is_integer
from settledplay.errors import InvalidOperation, InvalidText, ParseError, TooMany

MOST_TEXT = 20000
MOST_LONG = 2000
MOST_DEEP = 200

SEAL_MODULUS = 9973


def has_signs(value, least, most):
    """Whether the value is a string of so many signs."""
    return isinstance(value, str) and least <= len(value) <= most and value.isascii() and value.isprintable()


def need_text(value):
    """Refuse what is no text."""
    if not has_signs(value, 0, MOST_TEXT):
        raise InvalidText("a text is a string of at most 20000 signs")


def need_short(text):
    """Refuse more signs than a text can have."""
    if len(text) > MOST_TEXT:
        raise TooMany(MOST_TEXT)


def is_plain(value):
    """Whether the value is a plain value."""
    level = [value]
    # Level by level, as a value can be nested deeper than calls should be.
    for _ in range(MOST_DEEP):
        if not all([is_leaf(part) or is_short_tuple(part) for part in level]):
            return False
        level = [member for part in level if isinstance(part, tuple) for member in part]
    return all([is_leaf(part) for part in level])


def is_leaf(value):
    """Whether the value is a plain value, but no tuple."""
    return value is None or is_integer(value) or has_signs(value, 0, MOST_LONG)


def is_short_tuple(value):
    """Whether the value is a tuple that is not too long."""
    return isinstance(value, tuple) and len(value) <= MOST_LONG


def text_of(value):
    """The text of a plain value."""
    if not is_plain(value):
        raise InvalidOperation("this is no plain value")
    parts = []
    waiting = [value]
    while len(waiting) > 0:
        part = waiting.pop()
        if isinstance(part, tuple):
            parts.append(f"t{len(part)}:")
            waiting.extend(list(reversed(part)))
        else:
            parts.append(text_of_leaf(part))
    text = "".join(parts)
    need_short(text)
    return text


def text_of_leaf(value):
    """The text of a plain value that is no tuple."""
    if value is None:
        return "n"
    return f"s{len(value)}:{value}" if isinstance(value, str) else f"i{value};"


def value_of(text):
    """The plain value of a text."""
    need_text(text)
    # For each tuple that has begun how many members it has, and those that are read; the value itself ahead of all.
    lengths = [1]
    members = [[]]
    at = 0
    while len(members[0]) == 0:
        if text[at:at + 1] == "t" and len(lengths) <= MOST_DEEP:
            many, at = count_at(text, at + 1, MOST_LONG, ":")
            lengths.append(many)
            members.append([])
        else:
            leaf, at = leaf_at(text, at)
            members[-1].append(leaf)
        while len(lengths) > 1 and len(members[-1]) == lengths[-1]:
            lengths.pop()
            whole = tuple(members.pop())
            members[-1].append(whole)
    if at < len(text):
        raise ParseError(at)
    return members[0][0]


def leaf_at(text, at):
    """The plain value, no tuple, whose text stands at a place, and the place behind it."""
    word = text[at:at + 1]
    if word == "n":
        return (None, at + 1)
    if word == "i":
        return integer_at(text, at + 1)
    if word == "s":
        return string_at(text, at + 1)
    raise ParseError(at)


def integer_at(text, at):
    """The integer whose digits begin at a place, and the place behind its text."""
    most = 10 ** 60 - 1
    if text[at:at + 1] != "-":
        return count_at(text, at, most, ";")
    if text[at + 1:at + 2] == "0":
        raise ParseError(at + 1)
    count, behind = count_at(text, at + 1, most, ";")
    return (-count, behind)


def string_at(text, at):
    """The string whose length begins at a place, and the place behind its text."""
    many, begin = count_at(text, at, MOST_LONG, ":")
    if begin + many > len(text):
        raise ParseError(len(text))
    return (text[begin:begin + many], begin + many)


def count_at(text, at, most, mark):
    """The integer from 0 to most that stands at a place, ahead of a mark, and the place behind the mark."""
    count = 0
    end = at
    while text[end:end + 1].isdigit() and (end == at or count > 0) and count * 10 + int(text[end]) <= most:
        count = count * 10 + int(text[end])
        end = end + 1
    if end == at or text[end:end + 1] != mark:
        raise ParseError(end)
    return (count, end + 1)


def framed(text):
    """The frame of a text."""
    need_text(text)
    frame = frame_of(text)
    need_short(frame)
    return frame


def frame_of(text):
    """The frame of a sure text, however long it is."""
    return f"f{len(text)}:{text}{seal_of(text)}"


def seal_of(text):
    """The seal of a text."""
    number = sum([(at + 1) * ord(sign) for at, sign in enumerate(text)]) % SEAL_MODULUS
    return f"{number:04d}"


def parted(text):
    """The texts of the frames at the beginning of a text, the word for what is left, and where this begins."""
    need_text(text)
    texts = []
    at = 0
    told = text_in_frame(text, at)
    while told is not None:
        texts.append(told)
        at = at + len(frame_of(told))
        told = text_in_frame(text, at)
    return (tuple(texts), word_of_rest(text[at:]), at)


def text_in_frame(text, at):
    """The text in the whole frame that stands at a place, None if none does."""
    colon = text.find(":", at)
    if colon == -1 or not is_head(text[at:colon]):
        return None
    told = text[colon + 1:colon + 1 + int(text[at + 1:colon])]
    return told if text.startswith(frame_of(told), at) else None


def is_head(word):
    """Whether frames can begin with the word, ahead of a colon."""
    digits = word[1:]
    if word[:1] != "f" or not digits.isdigit() or len(digits) > len(str(MOST_TEXT)):
        return False
    return str(int(digits)) == digits and int(digits) <= MOST_TEXT


def word_of_rest(rest):
    """The word for what no whole frame begins."""
    if rest == "":
        return "whole"
    head, colon, behind = rest.partition(":")
    if colon == "":
        return "torn" if head == "f" or is_head(head) else "bent"
    if not is_head(head):
        return "bent"
    length = int(head[1:])
    if len(behind) < length or frame_of(behind[:length]).startswith(rest):
        return "torn"
    return "bent"
