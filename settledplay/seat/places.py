"""Places: the numbers of the seats, and of the lookers-on behind them."""

from settledplay.base.checks import is_within
from settledplay.errors import InvalidNumber


def places_of(setup):
    """How many places there are."""
    return setup.seats + setup.lookers


def is_machine_place(setup, value):
    """Whether the value is a place that has a machine of its own."""
    return is_within(value, 1, places_of(setup) - 1)


def need_machine_place(setup, value):
    """Refuse what is no place from 1 on."""
    if not is_machine_place(setup, value):
        raise InvalidNumber(value)


def seat_of(setup, place):
    """The seat of a place, None for a looker-on."""
    return place if place < setup.seats else None
