"""Steps, and the plain meaning of rows of joint words."""

from settledplay.base.luck import following
from settledplay.rules.forms import need_game
from settledplay.rules.joints import is_joint_of, is_row_of, need_joint, need_row
from settledplay.rules.running import record_of
from settledplay.rules.runs import behind, has_values, ids_to_run
from settledplay.world.worlds import World, first_world, need_world_of, world_of


def step(game, world, joint):
    """The next world, the records, and the effects."""
    need_world_of(game, world)
    need_joint(game, joint)
    return stepped(game, world, joint)


def stepped(game, world, joint):
    """The step for sure arguments."""
    return step_with(game, world, joint, {})[:3]


def step_with(game, world, joint, told):
    """The step for sure arguments, and the entries and ids of the runs for which no told record could be put on.

    The records are told by their entries and ids.
    """
    now = world
    records = []
    anew = []
    for entry in range(len(game.entries)):
        for thing in ids_to_run(game, now, entry):
            # A run of the same entry can have dropped it.
            if thing not in now:
                continue
            record = told.get((entry, thing))
            if record is None or not has_values(game, now, joint, record[2]):
                record = record_of(game, now, joint, entry, thing)
                anew.append((entry, thing))
            records.append(record)
            now = behind(game, now, record)
    after = world_of(now.tick + 1, now.next_id, following(now.luck), now.things)
    return (after, tuple(records), effects_of_records(records), tuple(anew))


def behind_words(game, world, words):
    """The world that comes from a world by steps with joint words, for sure arguments."""
    for joint in words:
        world = stepped(game, world, joint)[0]
    return world


def effects_of_records(records):
    """The effects that runs told, in their sequence."""
    return tuple([effect for record in records for effect in record[7]])


def next_world(game, world, joint):
    """The next world alone."""
    need_world_of(game, world)
    need_joint(game, joint)
    return stepped(game, world, joint)[0]


def is_next(game, world, joint, value):
    """Whether the value is the next world."""
    need_world_of(game, world)
    need_joint(game, joint)
    return isinstance(value, World) and value == stepped(game, world, joint)[0]


def plain(game, row):
    """The plain world of a row."""
    need_game(game)
    need_row(game, row)
    return behind_words(game, first_world(game), row)


def plain_worlds(game, row):
    """The plain worlds of all beginnings of a row, the shortest first."""
    need_game(game)
    need_row(game, row)
    world = first_world(game)
    yield world
    for joint in row:
        world = stepped(game, world, joint)[0]
        yield world


def is_joint(game, value):
    """Whether the value is a joint word of the game."""
    need_game(game)
    return is_joint_of(game, value)


def is_row(game, value):
    """Whether the value is a row of joint words of the game."""
    need_game(game)
    return is_row_of(game, value)
