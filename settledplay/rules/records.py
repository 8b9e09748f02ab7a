"""The forms of places and records, for any game."""

from settledplay.base.checks import is_integer, is_name, is_whole, is_within
from settledplay.base.luck import is_luck
from settledplay.base.numbers import is_number
from settledplay.rules.forms import MAX_THINGS
from settledplay.rules.joints import WORDS
from settledplay.rules.pieces import MOST_CODE
from settledplay.world.worlds import are_things

# The sorts of the members behind the word of a place.
PLACES = {
    "field": ("id", "name"),
    "kind": ("id",),
    "ids": ("name",),
    "many": (),
    "next": (),
    "key": ("integer",),
    "luck": (),
    "tick": (),
}
# The words of the places that can be asked for where there is nothing.
CAN_LACK = ("field", "kind", "ids", "key")
RECORD_LENGTH = 8


def is_place(value):
    """Whether the value has the form of a place."""
    if not isinstance(value, tuple) or len(value) == 0 or not isinstance(value[0], str):
        return False
    sorts = PLACES.get(value[0])
    if sorts is None or len(value) != len(sorts) + 1:
        return False
    return all([is_of_sort(member, sort) for member, sort in zip(value[1:], sorts)])


def is_of_sort(member, sort):
    """Whether a member of a place is of its sort."""
    if sort == "id":
        return is_whole(member)
    if sort == "name":
        return is_name(member)
    return is_integer(member)


def is_value_of(word, value):
    """Whether places that begin with the word can have the value."""
    if value is None:
        return word in CAN_LACK
    if word == "field":
        return is_number(value)
    if word == "kind":
        return is_name(value)
    if word == "ids":
        return is_tuple_of_ids(value)
    if word == "many":
        return is_within(value, 0, MAX_THINGS)
    if word == "key":
        return is_within(value, 0, WORDS - 1)
    return is_luck(value) if word == "luck" else is_whole(value)


def is_tuple_of_ids(value):
    """Whether the value is an ascending tuple of ids of things that can be there at once."""
    if not isinstance(value, tuple) or len(value) > MAX_THINGS:
        return False
    return all([is_whole(thing) for thing in value]) and do_ascend(value)


def do_ascend(members):
    """Whether members ascend; all of them have one form."""
    return all([low < high for low, high in zip(members, members[1:])])


def is_record_form(value):
    """Whether the value has the form of a record."""
    if not isinstance(value, tuple) or len(value) != RECORD_LENGTH:
        return False
    entry, thing, reads, sets, made, dropped, makes, effects = value
    if not is_whole(entry) or not is_whole(thing) or not is_whole(makes):
        return False
    if not are_reads(reads) or not are_sets(sets) or not are_drops(dropped) or not are_effects(effects):
        return False
    if not are_things(made) or not do_ascend(made):
        return False
    return are_apart(sets, made, dropped)


def are_apart(sets, made, dropped):
    """Whether nothing else is told of things that were made or dropped."""
    lives = [thing[0] for thing in made]
    drops = [pair[0] for pair in dropped]
    if not all([triple[0] not in lives and triple[0] not in drops for triple in sets]):
        return False
    return all([thing not in lives for thing in drops])


def are_reads(value):
    """Whether the value is a tuple of pairs of ascending places and of values."""
    if not isinstance(value, tuple) or not all([is_read(pair) for pair in value]):
        return False
    return do_ascend([pair[0] for pair in value])


def is_read(value):
    """Whether the value is a pair of a place and of a value that it can have."""
    if not isinstance(value, tuple) or len(value) != 2 or not is_place(value[0]):
        return False
    return is_value_of(value[0][0], value[1])


def are_sets(value):
    """Whether the value is a tuple of ids, fields and numbers, ids and fields ascending."""
    if not isinstance(value, tuple) or not all([is_set(triple) for triple in value]):
        return False
    return do_ascend([triple[:2] for triple in value])


def is_set(value):
    """Whether the value is an id, a field and a number."""
    if not isinstance(value, tuple) or len(value) != 3:
        return False
    return is_whole(value[0]) and is_name(value[1]) and is_number(value[2])


def are_drops(value):
    """Whether the value is an ascending tuple of pairs of an id and a kind, as many as things can be."""
    if not isinstance(value, tuple) or len(value) > MAX_THINGS:
        return False
    if not all([isinstance(pair, tuple) and len(pair) == 2 for pair in value]):
        return False
    return all([is_whole(thing) and is_name(kind) for thing, kind in value]) and do_ascend(value)


def are_effects(value):
    """Whether the value is a tuple of pairs of a code and a number."""
    if not isinstance(value, tuple) or not all([isinstance(pair, tuple) and len(pair) == 2 for pair in value]):
        return False
    return all([is_within(code, 0, MOST_CODE) and is_number(number) for code, number in value])
