"""The luck of worlds: one ring of lucks, and draws that hang on their spots alone."""

from settledplay.base.checks import is_within, need_whole, need_within
from settledplay.errors import InvalidLuck

MODULUS = 999999937
FACTOR = 48274
SUMMAND = 271829
STILL = 949019055
MAX_SIDES = 1000

# Powers of primes that make MODULUS - 1: a logarithm is found for each of them alone, as all are small.
RING_PARTS = (64, 9, 13, 83, 1609)
# Five times this number is 1 modulo MODULUS - 1, so this power takes back the fifth power.
FIFTH_ROOT = 799999949


def is_luck(value):
    """Whether the value is a luck."""
    return is_within(value, 0, MODULUS - 1)


def need_luck(value):
    """Refuse what is no luck."""
    if not is_luck(value):
        raise InvalidLuck("a luck is an integer from 0 to MODULUS - 1")


def power(base, exponent):
    """The power modulo MODULUS, by squares, as exponents can have sixty digits."""
    result = 1
    square = base % MODULUS
    while exponent > 0:
        if exponent & 1:
            result = result * square % MODULUS
        square = square * square % MODULUS
        exponent = exponent >> 1
    return result


def next_luck(luck):
    """The luck behind a luck."""
    need_luck(luck)
    return following(luck)


def following(luck):
    """The next luck of what surely is a luck."""
    return (FACTOR * luck + SUMMAND) % MODULUS


def luck_ahead(luck):
    """The luck whose next luck this one is."""
    return luck_before(luck, 1)


def luck_after(luck, many):
    """Where taking the next luck so many times leads."""
    need_luck(luck)
    need_whole(many)
    return along(luck, many)


def luck_before(luck, many):
    """Where taking the luck ahead so many times leads."""
    need_luck(luck)
    need_whole(many)
    return along(luck, -many % (MODULUS - 1))


def along(luck, many):
    """The luck so many places on: STILL stays, so only what a luck is more than STILL is multiplied."""
    return ((luck - STILL) * power(FACTOR, many) + STILL) % MODULUS


def lucks_between(one, other):
    """The least number of times to take the next luck from the one to the other, None if none leads there."""
    need_luck(one)
    need_luck(other)
    if one == other:
        return 0
    if STILL in (one, other):
        return None
    return logarithm((other - STILL) * power(one - STILL, MODULUS - 2) % MODULUS)


def logarithm(result):
    """The exponent below MODULUS - 1 with which FACTOR has this result: from its rests by the parts of the ring."""
    exponent = 0
    for part in RING_PARTS:
        share = (MODULUS - 1) // part
        turns = turns_to(power(FACTOR, share), power(result, share), part)
        exponent = exponent + turns * share * inverse(share, part)
    return exponent % (MODULUS - 1)


def turns_to(base, result, part):
    """The exponent below a part of the ring with which the base has this result."""
    turn, found = 0, 1
    while found != result:
        turn, found = turn + 1, found * base % MODULUS
    return turn


def inverse(number, part):
    """What makes 1 of the number, modulo a part of the ring."""
    candidate = 1
    while candidate * number % part != 1:
        candidate = candidate + 1
    return candidate


def stirred(luck):
    """What stirring makes of a luck."""
    need_luck(luck)
    return stir(luck)


def stir(luck):
    """The stirred luck of what surely is a luck."""
    return (luck ** 5 + SUMMAND) % MODULUS


def unstirred(luck):
    """The luck of which stirring makes this one."""
    need_luck(luck)
    return unstir(luck)


def unstir(luck):
    """The luck ahead of the stirring of what surely is a luck."""
    return power(luck - SUMMAND, FIFTH_ROOT)


def spot_number(luck, entry, thing, turn):
    """The spot number of the luck and three integers."""
    need_luck(luck)
    need_whole(entry)
    need_whole(thing)
    need_whole(turn)
    return spot(luck, entry, thing, turn)


def spot(luck, entry, thing, turn):
    """The spot number for integers of any length: the ids of a world can outgrow what may be passed."""
    return stir((run_number(luck, entry, thing) + turn) % MODULUS)


def run_number(luck, entry, thing):
    """What the spot numbers of all turns of a run have in common."""
    number = stir(luck)
    number = stir((number + entry) % MODULUS)
    return stir((number + thing) % MODULUS)


def turn_of(luck, entry, thing, number):
    """The turn below MODULUS that has this spot number."""
    need_luck(luck)
    need_whole(entry)
    need_whole(thing)
    need_luck(number)
    return (unstir(number) - run_number(luck, entry, thing)) % MODULUS


def drawn(luck, entry, thing, turn, sides):
    """The draw of a spot with so many sides."""
    need_luck(luck)
    need_whole(entry)
    need_whole(thing)
    need_whole(turn)
    need_within(sides, 1, MAX_SIDES)
    return draw(luck, entry, thing, turn, sides)


def draw(luck, entry, thing, turn, sides):
    """The draw for integers of any length."""
    return spot(luck, entry, thing, turn) * sides // MODULUS
