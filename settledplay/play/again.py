"""Steps that are done again, with the records of elder ones."""

from settledplay.errors import InvalidRecord
from settledplay.play.step import step_with
from settledplay.rules.forms import need_game
from settledplay.rules.joints import need_joint, need_row
from settledplay.rules.records import is_record_form
from settledplay.rules.running import place_value
from settledplay.rules.runs import need_record
from settledplay.world.worlds import need_world_of


def again(game, records, world, joint):
    """The next world, the records, the effects, and the entries and ids of the runs done anew."""
    need_game(game)
    need_records(records)
    need_world_of(game, world)
    need_joint(game, joint)
    return done_again(game, records, world, joint)


def done_again(game, records, world, joint):
    """A step that is done again, for sure arguments."""
    return step_with(game, world, joint, {record[:2]: record for record in records})


def again_row(game, rows, world, row):
    """The worlds behind each step, the rows of records, the rows of effects, and how many runs were done anew."""
    need_game(game)
    if not isinstance(rows, tuple) or not all([are_records(records) for records in rows]):
        raise InvalidRecord("rows of records are told in a tuple")
    need_world_of(game, world)
    need_row(game, row)
    worlds, found, effects = [], [], []
    many = 0
    now = world
    for at, joint in enumerate(row):
        now, records, told, anew = done_again(game, rows[at] if at < len(rows) else (), now, joint)
        worlds.append(now)
        found.append(records)
        effects.append(told)
        many = many + len(anew)
    return (tuple(worlds), tuple(found), tuple(effects), many)


def are_records(value):
    """Whether the value is a tuple of records, each of another run."""
    if not isinstance(value, tuple) or not all([is_record_form(record) for record in value]):
        return False
    return len({record[:2] for record in value}) == len(value)


def need_records(value):
    """Refuse what is no tuple of records of unlike runs."""
    if not are_records(value):
        raise InvalidRecord("records are a tuple of records of unlike runs")


def unlike_places(game, one, joint, other, further):
    """The places at which two worlds, each with a joint word, are unlike."""
    need_world_of(game, one)
    need_joint(game, joint)
    need_world_of(game, other)
    need_joint(game, further)
    unlike = [
        place
        for place in places_of(game, one, other)
        if place_value(game, one, joint, place) != place_value(game, other, further, place)
    ]
    return tuple(sorted(set(unlike)))


def places_of(game, one, other):
    """All places of two worlds, some of them more than once."""
    places = [("many",), ("next",), ("luck",), ("tick",)]
    places.extend([("ids", kind) for kind in game.names])
    places.extend([("key", seat) for seat in range(game.seats)])
    for thing, kind, _ in one.things + other.things:
        places.extend(places_of_thing(game, thing, kind))
    return places


def places_of_thing(game, thing, kind):
    """The kind and each field of a thing; no fields of a kind that the game has not."""
    fields = game.fields(kind) if game.has_kind(kind) else ()
    return [("kind", thing), *[("field", thing, field) for field in fields]]


def changed_places(game, record):
    """The places that a record changes."""
    need_game(game)
    need_record(record)
    _, _, _, sets, made, dropped, makes, _ = record
    places = [("field", thing, field) for thing, field, _ in sets]
    for thing, kind in [*[told[:2] for told in made], *dropped]:
        places.extend([("ids", kind), ("many",), *places_of_thing(game, thing, kind)])
    if makes > 0:
        places.append(("next",))
    return tuple(sorted(set(places)))
