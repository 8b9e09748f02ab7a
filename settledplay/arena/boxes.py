"""Boxes that move in an arena until something bars them."""

from settledplay.base.checks import is_within, need_within
from settledplay.base.numbers import is_number
from settledplay.errors import InvalidBox, InvalidNumber, TooMany, UnknownName
from settledplay.rules.forms import MAX_BODY, is_arena
from settledplay.world.worlds import need_world_of, with_numbers

SIDES = ("left", "right", "low", "high")
MOST_UNITS = 1000

MOST_OTHERS = 24
MOST_MANY = 1000000000
# The index of the coordinate that changes on the way to a side, and by how much with each unit.
WAYS = {"left": (0, -1), "right": (0, 1), "low": (1, -1), "high": (1, 1)}


def is_box(value):
    """Whether the value is a box."""
    if not isinstance(value, tuple) or len(value) != 4:
        return False
    if not is_number(value[0]) or not is_number(value[1]):
        return False
    return is_within(value[2], 1, MAX_BODY) and is_within(value[3], 1, MAX_BODY)


def need_box(value):
    """Refuse what is no box."""
    if not is_box(value):
        raise InvalidBox("a box is two numbers, and a width and a height from 1 to 40")


def need_number(value):
    """Refuse what is no number."""
    if not is_number(value):
        raise InvalidNumber(value)


def need_among(arena, box, others):
    """Refuse what is no arena, no box, no tuple of boxes, in this sequence."""
    if not is_arena(arena):
        raise InvalidBox("an arena is a width and a height from 1 to 400")
    need_box(box)
    if not isinstance(others, tuple) or len(others) > MOST_OTHERS:
        raise InvalidBox("others are a tuple of at most 24 boxes")
    for other in others:
        need_box(other)


def need_way(arena, box, others, side, many):
    """Refuse what no box can go."""
    need_among(arena, box, others)
    if side not in SIDES:
        raise UnknownName(side)
    need_within(many, 0, MOST_MANY)


def are_meeting(one, other, *, grown=0):
    """Whether two boxes have a place in common, the first one grown on all sides."""
    need_box(one)
    need_box(other)
    need_number(grown)
    return do_meet(one, other, grown)


def do_meet(one, other, grown):
    """Whether two sure boxes have a place in common; a box that shrank to nothing has none."""
    return do_share(one, other, 0, grown) and do_share(one, other, 1, grown)


def do_share(one, other, axis, grown):
    """Whether two boxes have a column (axis 0) or a row (axis 1) in common, the first one grown."""
    low = max(one[axis] - grown, other[axis])
    high = min(one[axis] + one[axis + 2] + grown, other[axis] + other[axis + 2])
    return low < high


def shifted(box, side, units):
    """The box so many units farther to a side."""
    axis, way = WAYS[side]
    x, y, width, height = box
    if axis == 0:
        return (x + way * units, y, width, height)
    return (x, y + way * units, width, height)


def border_gap(arena, box, side):
    """How many units the box is inside of the border at a side."""
    axis, way = WAYS[side]
    inside = box[axis] if way == -1 else arena[axis] - box[axis] - box[axis + 2]
    return max(0, inside)


def box_gaps(box, others, side):
    """How many units lie between the box and each other one that stands at a side, in its way."""
    axis, way = WAYS[side]
    gaps = []
    for other in others:
        if do_share(box, other, 1 - axis, 0):
            low, high = (other, box) if way == -1 else (box, other)
            gaps.append(high[axis] - low[axis] - low[axis + 2])
    return [gap for gap in gaps if gap >= 0]


def units_free(arena, box, others, side, many):
    """How many of the units a box goes, by the gaps alone."""
    return min([many, border_gap(arena, box, side), *box_gaps(box, others, side)])


def reach(arena, box, others, side, many):
    """How many units the box goes among others, by the closed form."""
    need_way(arena, box, others, side, many)
    return units_free(arena, box, others, side, many)


def reach_by_units(arena, box, others, side, many):
    """How many units the box goes among others, unit by unit."""
    need_way(arena, box, others, side, many)
    if many > MOST_UNITS:
        raise TooMany(MOST_UNITS)
    gone = 0
    while gone < many and not is_barred(arena, shifted(box, side, gone), others, side):
        gone = gone + 1
    return gone


def is_barred(arena, box, others, side):
    """Whether something bars the next unit of a box."""
    return is_border_ahead(arena, box, side) or any([does_bar(box, other, side) for other in others])


def is_border_ahead(arena, box, side):
    """Whether the next unit leads beyond the border at its side, or farther out."""
    axis, way = WAYS[side]
    after = shifted(box, side, 1)
    return after[axis] < 0 if way == -1 else after[axis] + after[axis + 2] > arena[axis]


def does_bar(box, other, side):
    """Whether another box bars the next unit: boxes that meet already do not bar one another."""
    return do_meet(shifted(box, side, 1), other, 0) and not do_meet(box, other, 0)


def barrier(arena, box, others, side, many):
    """What bars the box where it stops: the least index of a box, -1 for the border alone, None for nothing."""
    need_way(arena, box, others, side, many)
    units = units_free(arena, box, others, side, many)
    if units == many:
        return None
    stopped = shifted(box, side, units)
    barring = [at for at, other in enumerate(others) if does_bar(stopped, other, side)]
    return barring[0] if len(barring) > 0 else -1


def moved_box(arena, box, others, dx, dy):
    """The box behind its move."""
    need_among(arena, box, others)
    need_number(dx)
    need_number(dy)
    return moved(arena, box, others, dx, dy)


def moved(arena, box, others, dx, dy):
    """The box behind its move, for sure arguments: first along x, from there along y."""
    across = "left" if dx < 0 else "right"
    there = shifted(box, across, units_free(arena, box, others, across, abs(dx)))
    along = "low" if dy < 0 else "high"
    return shifted(there, along, units_free(arena, there, others, along, abs(dy)))


def need_body(game, world, thing):
    """Refuse what is no id of a thing with a body."""
    if thing not in world or not has_body(game, world, thing):
        raise UnknownName(thing)


def has_body(game, world, thing):
    """Whether a thing has a body."""
    return game.table[world.kind_of(thing)].body is not None


def body_ids(game, world):
    """The ascending ids of the things with a body."""
    return [thing for thing in world.order if has_body(game, world, thing)]


def solid_ids(game, world):
    """The ascending ids of the solid things."""
    return [thing for thing in world.order if game.table[world.kind_of(thing)].is_solid()]


def body_box(game, world, thing):
    """The box of what surely is a thing with a body."""
    kind = game.table[world.kind_of(thing)]
    numbers = world.numbers(thing)
    return (numbers[kind.places["x"]], numbers[kind.places["y"]], kind.body[0], kind.body[1])


def boxes_around(game, world, thing):
    """The boxes of all other solid things."""
    return tuple([body_box(game, world, other) for other in solid_ids(game, world) if other != thing])


def box_of(game, world, thing):
    """The box of a thing."""
    need_world_of(game, world)
    need_body(game, world, thing)
    return body_box(game, world, thing)


def solid_around(game, world, thing):
    """The boxes of all other solid things, by ascending ids."""
    need_world_of(game, world)
    need_body(game, world, thing)
    return boxes_around(game, world, thing)


def behind_move(game, world, thing):
    """The pair of x and y of a sure body behind its move."""
    places = game.table[world.kind_of(thing)].places
    numbers = world.numbers(thing)
    around = boxes_around(game, world, thing)
    box = moved(game.arena, body_box(game, world, thing), around, numbers[places["dx"]], numbers[places["dy"]])
    return (box[0], box[1])


def moved_thing(game, world, thing):
    """The pair of x and y of a thing behind its move alone."""
    need_world_of(game, world)
    need_body(game, world, thing)
    return behind_move(game, world, thing)


def move_all(game, world):
    """The world behind the move of all."""
    need_world_of(game, world)
    now = world
    for thing in body_ids(game, world):
        places = game.table[world.kind_of(thing)].places
        numbers = list(now.numbers(thing))
        x, y = behind_move(game, now, thing)
        numbers[places["x"]] = x
        numbers[places["y"]] = y
        now = with_numbers(now, {thing: tuple(numbers)})
    return now


def meeting_pairs(game, world):
    """The ascending pairs of ids of solid things that meet."""
    need_world_of(game, world)
    solid = [(thing, body_box(game, world, thing)) for thing in solid_ids(game, world)]
    pairs = []
    for one, box in solid:
        pairs.extend([(one, other) for other, near in solid if one < other and do_meet(box, near, 0)])
    return tuple(pairs)
