"""The numbers of a world, and the operations that make numbers of numbers."""

from settledplay.base.checks import is_integer, is_within
from settledplay.errors import InvalidNumber, UnknownName

MOST = 1000000000
OPS = ("plus", "minus", "times", "over", "rest", "least", "most", "less", "same", "both", "any")


def is_number(value):
    """Whether the value is a number."""
    return is_within(value, -MOST, MOST)


def nearest(integer):
    """The number nearest to an integer of any length: ticks and ids can outgrow what may be passed."""
    return max(-MOST, min(MOST, integer))


def clamped(integer):
    """The number nearest to an integer."""
    if not is_integer(integer):
        raise InvalidNumber(integer)
    return nearest(integer)


def plus(one, other):
    """The clamped sum."""
    return nearest(one + other)


def minus(one, other):
    """The clamped difference."""
    return nearest(one - other)


def times(one, other):
    """The clamped product."""
    return nearest(one * other)


def over(one, other):
    """The quotient, rounded down; 0 for no divisor."""
    return 0 if other == 0 else one // other


def rest(one, other):
    """What the quotient leaves; 0 for no divisor."""
    return 0 if other == 0 else one - other * (one // other)


def least(one, other):
    """The lesser one."""
    return min(one, other)


def most(one, other):
    """The greater one."""
    return max(one, other)


def less(one, other):
    """1 if the first one is below the other one."""
    return 1 if one < other else 0


def same(one, other):
    """1 for equal ones."""
    return 1 if one == other else 0


def both(one, other):
    """1 if neither is 0."""
    return 1 if one != 0 and other != 0 else 0


def either(one, other):
    """1 if one of both is not 0."""
    return 1 if one != 0 or other != 0 else 0


OPERATIONS = {
    "plus": plus,
    "minus": minus,
    "times": times,
    "over": over,
    "rest": rest,
    "least": least,
    "most": most,
    "less": less,
    "same": same,
    "both": both,
    "any": either,
}


def worked(op, one, other):
    """What an operation makes of two numbers."""
    if op not in OPS:
        raise UnknownName(op)
    for number in (one, other):
        if not is_number(number):
            raise InvalidNumber(number)
    action = OPERATIONS[op]
    return action(one, other)
