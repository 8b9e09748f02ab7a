"""What is asked of passed values everywhere."""

from settledplay.errors import InvalidNumber


def is_integer(value):
    """Whether the value is an integer of at most sixty digits; True and False are none."""
    return isinstance(value, int) and not isinstance(value, bool) and -10 ** 60 < value < 10 ** 60


def is_within(value, low, high):
    """Whether the value is an integer from low to high."""
    return is_integer(value) and low <= value <= high


def is_whole(value):
    """Whether the value is an integer from 0 on."""
    return is_integer(value) and value >= 0


def is_name(value):
    """Whether the value has one to eight letters a to z."""
    if not isinstance(value, str) or not 1 <= len(value) <= 8:
        return False
    return value.isascii() and value.isalpha() and value.islower()


def need_whole(value):
    """Refuse what is no integer from 0 on."""
    if not is_whole(value):
        raise InvalidNumber(value)


def need_within(value, low, high):
    """Refuse what is no integer from low to high."""
    if not is_within(value, low, high):
        raise InvalidNumber(value)
