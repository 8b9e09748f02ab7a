"""Runs of entries for things: the places that they read, and their records."""

from settledplay.arena.boxes import body_ids
from settledplay.base.checks import is_within
from settledplay.errors import InvalidNumber, InvalidOperation, InvalidPlace, InvalidRecord
from settledplay.rules.forms import MAX_THINGS
from settledplay.rules.joints import need_joint
from settledplay.rules.records import RECORD_LENGTH, is_place, is_record_form
from settledplay.rules.running import place_value, record_of
from settledplay.world.worlds import does_suit, need_world_of, world_of


def value_at(game, world, joint, place):
    """The value of a place."""
    need_world_of(game, world)
    need_joint(game, joint)
    if not is_place(place):
        raise InvalidPlace("this is no place that a run could read")
    return place_value(game, world, joint, place)


def run(game, world, joint, entry, thing):
    """The record of the run of an entry for a thing."""
    need_world_of(game, world)
    need_joint(game, joint)
    if not is_index(game, entry):
        raise InvalidNumber(entry)
    if not can_run(game, world, entry, thing):
        raise InvalidNumber(thing)
    return record_of(game, world, joint, entry, thing)


def is_index(game, value):
    """Whether the value is the index of an entry."""
    return is_within(value, 0, len(game.entries) - 1)


def ids_to_run(game, world, entry):
    """The ascending ids of the things for which an entry can run."""
    told = game.entries[entry]
    if told[0] == "move":
        return body_ids(game, world)
    return list(world.ids(told[1]))


def can_run(game, world, entry, thing):
    """Whether the entry of an index can run for a value as its thing."""
    return thing in world and thing in ids_to_run(game, world, entry)


def is_record(game, world, joint, value):
    """Whether the value is the record of some run in this world."""
    need_world_of(game, world)
    need_joint(game, joint)
    if not isinstance(value, tuple) or len(value) != RECORD_LENGTH:
        return False
    if not is_index(game, value[0]) or not can_run(game, world, value[0], value[1]):
        return False
    return is_alike(value, record_of(game, world, joint, value[0], value[1]))


def is_alike(value, told):
    """Whether a judged value is what is told, True being no 1."""
    if isinstance(told, tuple):
        if not isinstance(value, tuple) or len(value) != len(told):
            return False
        return all([is_alike(one, other) for one, other in zip(value, told)])
    return value == told and not isinstance(value, bool)


def need_record(value):
    """Refuse what has not the form of a record."""
    if not is_record_form(value):
        raise InvalidRecord("this has not the form of a record")


def has_same_reads(game, world, joint, record):
    """Whether the entry of a record can run for its thing, and all that it read is as it was."""
    need_world_of(game, world)
    need_joint(game, joint)
    need_record(record)
    return can_be_put(game, world, joint, record)


def can_be_put(game, world, joint, record):
    """Whether the run of a sure record would be the same in this world."""
    entry, thing, reads = record[:3]
    if not is_index(game, entry) or not can_run(game, world, entry, thing):
        return False
    return has_values(game, world, joint, reads)


def has_values(game, world, joint, reads):
    """Whether all places that were read have the values that were read."""
    return all([place_value(game, world, joint, place) == value for place, value in reads])


def put_on(game, world, record):
    """The world behind a record."""
    need_world_of(game, world)
    need_record(record)
    if not does_apply(game, world, record):
        raise InvalidOperation("the record does not go with this world")
    return behind(game, world, record)


def does_apply(game, world, record):
    """Whether what a record drops and sets is there, and what it makes can be."""
    _, _, _, sets, made, dropped, makes, _ = record
    if not all([thing in world and world.kind_of(thing) == kind for thing, kind in dropped]):
        return False
    if not all([has_field(game, world, thing, field) for thing, field, _ in sets]):
        return False
    if len(world) - len(dropped) + len(made) > MAX_THINGS:
        return False
    ids = [thing[0] for thing in made]
    if len(set(ids)) != len(ids) or not all([0 <= thing - world.next_id < makes for thing in ids]):
        return False
    return all([does_suit(game, thing) for thing in made])


def has_field(game, world, thing, field):
    """Whether a thing is there and its kind has the field."""
    return thing in world and field in game.table[world.kind_of(thing)].places


def behind(game, world, record):
    """The world behind a record that surely goes with it."""
    _, _, _, sets, made, dropped, makes, _ = record
    gone = {thing: True for thing, _ in dropped}
    numbers = {thing: list(world.numbers(thing)) for thing, _, _ in sets}
    for thing, field, number in sets:
        numbers[thing][game.table[world.kind_of(thing)].places[field]] = number
    kept = [
        (thing, kind, tuple(numbers.get(thing, former)))
        for thing, kind, former in world.things
        if thing not in gone
    ]
    return world_of(world.tick, world.next_id + makes, world.luck, (*kept, *made))
