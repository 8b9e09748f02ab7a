"""Differences of worlds: what is told of a world that is made of another one."""

from settledplay.base.checks import is_whole, is_within
from settledplay.base.luck import is_luck
from settledplay.base.numbers import is_number
from settledplay.errors import InvalidOperation, Refused
from settledplay.rules.forms import MAX_FIELDS, MAX_THINGS
from settledplay.rules.records import do_ascend
from settledplay.world.worlds import are_in_sequence, is_thing, need_world, world_of

# What each difference tells of a world, whatever its things are.
LEAST_SIZE = 3


def is_difference(value):
    """Whether the value is a difference."""
    if not isinstance(value, tuple) or len(value) != 6:
        return False
    tick, next_id, luck, gone, came, changed = value
    if not is_whole(tick) or not is_whole(next_id) or not is_luck(luck):
        return False
    if not are_gone(gone) or not are_coming(came) or not are_changes(changed):
        return False
    ids = [*gone, *[thing[0] for thing in came]]
    unlike = set([*ids, *[triple[0] for triple in changed]])
    return len(unlike) == len(ids) + len({triple[0] for triple in changed})


def are_gone(value):
    """Whether the value is an ascending tuple of ids."""
    return isinstance(value, tuple) and all([is_whole(thing) for thing in value]) and do_ascend(value)


def are_coming(value):
    """Whether the value is a tuple of things by ascending ids."""
    if not isinstance(value, tuple) or not all([is_thing(thing) for thing in value]):
        return False
    return do_ascend([thing[0] for thing in value])


def are_changes(value):
    """Whether the value is a tuple of ids, indices and numbers, ids and indices ascending."""
    if not isinstance(value, tuple) or not all([is_change(triple) for triple in value]):
        return False
    return do_ascend([triple[:2] for triple in value])


def is_change(value):
    """Whether the value is an id, an index and a number."""
    if not isinstance(value, tuple) or len(value) != 3:
        return False
    return is_whole(value[0]) and is_within(value[1], 0, MAX_FIELDS - 1) and is_number(value[2])


def difference(one, other):
    """The difference of the least size that makes one world of another one."""
    need_world(one)
    need_world(other)
    return difference_of(one, other)


def difference_of(one, other):
    """The least difference of sure worlds."""
    came = []
    changed = []
    for told in other.things:
        if has_alike(one, told):
            changed.extend(changes_of(one.numbers(told[0]), told))
        else:
            came.append(told)
    gone = [thing for thing in one if thing not in other]
    return (other.tick, other.next_id, other.luck, tuple(gone), tuple(came), tuple(changed))


def has_alike(world, told):
    """Whether a world has a thing with this id, this kind and as many numbers."""
    thing, kind, numbers = told
    return thing in world and world.kind_of(thing) == kind and len(world.numbers(thing)) == len(numbers)


def changes_of(former, told):
    """What is told of the numbers of a thing that are not as they were."""
    thing, _, numbers = told
    return [(thing, at, number) for at, number in enumerate(numbers) if number != former[at]]


def applied(world, told):
    """The world that a difference makes of a world."""
    need_world(world)
    if not is_difference(told):
        raise InvalidOperation("this is no difference")
    unfit = ids_that_fail(world, told)
    if len(unfit) > 0:
        raise Refused(("fit", min(unfit)))
    things = things_behind(world, told)
    if len(things) > MAX_THINGS or not are_in_sequence(things, told[1]):
        raise Refused(("world",))
    return world_of(told[0], told[1], told[2], things)


def world_behind(world, told):
    """The world that a difference makes, both from the same hand."""
    return world_of(told[0], told[1], told[2], things_behind(world, told))


def ids_that_fail(world, told):
    """The ids for which a difference does not fit a world."""
    gone = [thing for thing in told[3] if thing not in world]
    return gone + [thing for thing, at, _ in told[5] if thing not in world or at >= len(world.numbers(thing))]


def things_behind(world, told):
    """The things behind a difference that fits."""
    _, _, _, gone, came, changed = told
    things = {thing: [kind, list(numbers)] for thing, kind, numbers in world.things if thing not in gone}
    for thing, at, number in changed:
        things[thing][1][at] = number
    for thing, kind, numbers in came:
        things[thing] = [kind, numbers]
    return tuple([(thing, things[thing][0], tuple(things[thing][1])) for thing in sorted(list(things))])


def size(told):
    """The size of a difference."""
    if not is_difference(told):
        raise InvalidOperation("this is no difference")
    _, _, _, gone, came, changed = told
    return LEAST_SIZE + len(gone) + len(changed) + sum([1 + len(numbers) for _, _, numbers in came])
