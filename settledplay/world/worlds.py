"""Worlds: a tick, a luck, and things that have ids of their own for ever."""

from settledplay.base.checks import is_name, is_whole
from settledplay.base.luck import is_luck
from settledplay.base.numbers import is_number
from settledplay.errors import InvalidNumber, InvalidOperation, InvalidWorld, UnknownName
from settledplay.rules.forms import MAX_FIELDS, MAX_THINGS, need_game

# The longest tick and ids of which a text can tell.
MOST_DIGITS = 4000


class World:
    """A world of a game."""

    def __init__(self, tick, next_id, luck, things):
        if not (is_whole(tick) and is_whole(next_id) and is_luck(luck) and are_things(things)):
            raise InvalidWorld("a world has a tick, a next id, a luck and things")
        if not are_in_sequence(things, next_id):
            raise InvalidWorld("things stand by ascending ids, all of them below the next id")
        self._fill(tick, next_id, luck, things)

    def _fill(self, tick, next_id, luck, things):
        """Set all that a world has; only for one that nobody has seen yet."""
        self.tick = tick
        self.next_id = next_id
        self.luck = luck
        self.things = things
        self.order = tuple([thing[0] for thing in things])
        self.table = {thing[0]: thing for thing in things}

    def ids(self, kind):
        """The ascending ids of the things of a kind."""
        return tuple([thing[0] for thing in self.things if thing[1] == kind])

    def kind_of(self, thing):
        """The kind of the thing with this id."""
        if thing not in self:
            raise UnknownName(thing)
        return self.table[thing][1]

    def numbers(self, thing):
        """The numbers of the thing with this id."""
        if thing not in self:
            raise UnknownName(thing)
        return self.table[thing][2]

    def __contains__(self, value):
        return isinstance(value, int) and not isinstance(value, bool) and value in self.table

    def __len__(self):
        return len(self.things)

    def __iter__(self):
        return iter(self.order)

    def __eq__(self, other):
        return isinstance(other, World) and properties_of(self) == properties_of(other)

    def __str__(self):
        return f"world at {self.tick} of {len(self.things)} things"


def properties_of(world):
    """All that a world is told by."""
    return (world.tick, world.next_id, world.luck, world.things)


def world_of(tick, next_id, luck, things):
    """A world of surely right parts; its tick and ids can have outgrown what may be passed."""
    world = World(0, 0, 0, ())
    world._fill(tick, next_id, luck, things)
    return world


def are_things(value):
    """Whether the value is a tuple of things, in any sequence."""
    if not isinstance(value, tuple) or len(value) > MAX_THINGS:
        return False
    return all([is_thing(thing) for thing in value])


def is_thing(value):
    """Whether the value is an id, a kind and numbers."""
    if not isinstance(value, tuple) or len(value) != 3:
        return False
    return is_whole(value[0]) and is_name(value[1]) and are_numbers(value[2])


def are_numbers(value):
    """Whether the value is a tuple of 1 to 8 numbers."""
    if not isinstance(value, tuple) or not 1 <= len(value) <= MAX_FIELDS:
        return False
    return all([is_number(number) for number in value])


def are_in_sequence(things, next_id):
    """Whether the ids of things ascend and are below the next id."""
    ids = [thing[0] for thing in things] + [next_id]
    return all([low < high for low, high in zip(ids, ids[1:])])


def need_world(value):
    """Refuse what is no world."""
    if not isinstance(value, World):
        raise InvalidWorld("a world is an object of its class")


def need_world_of(game, value):
    """Refuse what is no game, and then what is no world of the game."""
    need_game(game)
    if not does_belong(game, value):
        raise InvalidWorld("this is no world of the game")


def need_thing(world, thing):
    """Refuse what is no id of a thing of the world."""
    if thing not in world:
        raise UnknownName(thing)


def does_belong(game, value):
    """Whether the value is a world whose things are such as the game has."""
    if not isinstance(value, World):
        return False
    return all([does_suit(game, thing) for thing in value.things])


def does_suit(game, thing):
    """Whether a thing has a kind of the game and a number for each of its fields."""
    _, kind, numbers = thing
    return game.has_kind(kind) and len(numbers) == len(game.table[kind].fields)


def made(world, kind, numbers):
    """The world with a further thing, and its id; None as the id if there are as many as can be."""
    need_world(world)
    if not is_name(kind) or not are_numbers(numbers):
        raise InvalidOperation("a thing has a name as its kind, and 1 to 8 numbers")
    if len(world) == MAX_THINGS:
        return (world, None)
    things = (*world.things, (world.next_id, kind, numbers))
    return (world_of(world.tick, world.next_id + 1, world.luck, things), world.next_id)


def dropped(world, thing):
    """The world without a thing."""
    need_world(world)
    need_thing(world, thing)
    things = tuple([kept for kept in world.things if kept[0] != thing])
    return world_of(world.tick, world.next_id, world.luck, things)


def changed(world, thing, place, number):
    """The world in which one number of a thing is another one."""
    need_world(world)
    need_thing(world, thing)
    numbers = list(world.numbers(thing))
    if not is_whole(place) or place >= len(numbers):
        raise InvalidNumber(place)
    if not is_number(number):
        raise InvalidOperation("a thing has numbers")
    numbers[place] = number
    return with_numbers(world, {thing: tuple(numbers)})


def with_numbers(world, numbers):
    """The world in which things have other numbers, told by their ids."""
    things = [(thing, kind, numbers.get(thing, former)) for thing, kind, former in world.things]
    return world_of(world.tick, world.next_id, world.luck, tuple(things))


def first_world(game):
    """The world of a game at the tick 0."""
    need_game(game)
    things = [(at, kind, numbers) for at, (kind, numbers) in enumerate(game.start)]
    return world_of(0, len(things), game.luck, tuple(things))


def is_world_of(game, value):
    """Whether the value is a world of the game."""
    need_game(game)
    return does_belong(game, value)


def value_of(game, world, thing, field):
    """The number of a field of a thing."""
    need_world_of(game, world)
    need_thing(world, thing)
    places = game.table[world.kind_of(thing)].places
    if not isinstance(field, str) or field not in places:
        raise UnknownName(field)
    return world.numbers(thing)[places[field]]


def world_text(world):
    """The text of a world."""
    need_world(world)
    parts = [f"{world.tick} {world.next_id} {world.luck}"]
    for thing, kind, numbers in world.things:
        parts.append(" ".join([str(thing), kind, *[str(number) for number in numbers]]))
    return ";".join(parts)


def read_world(text):
    """The world of a text."""
    parts = text.split(";") if isinstance(text, str) else [""]
    head = parts[0].split(" ")
    things = [read_thing(part) for part in parts[1:]]
    if len(head) != 3 or not all([is_count(word) for word in head]) or None in things:
        raise InvalidWorld("this is no text of a world")
    tick, next_id, luck = [int(word) for word in head]
    if not is_luck(luck) or len(things) > MAX_THINGS or not are_in_sequence(things, next_id):
        raise InvalidWorld("this text tells no luck, too many things, or ids that do not ascend")
    return world_of(tick, next_id, luck, tuple(things))


def read_thing(text):
    """The thing that a part of a text tells, None if it tells none."""
    words = text.split(" ")
    if len(words) < 2 or not is_count(words[0]) or not is_name(words[1]):
        return None
    if not all([is_signed(word) for word in words[2:]]):
        return None
    numbers = tuple([int(word) for word in words[2:]])
    return (int(words[0]), words[1], numbers) if are_numbers(numbers) else None


def is_count(word):
    """Whether a word has the digits of an integer from 0 on; longer ones could not be read on each machine."""
    if not word.isascii() or not word.isdigit() or len(word) > MOST_DIGITS:
        return False
    return word == "0" or word[0] != "0"


def is_signed(word):
    """Whether a word has the digits of an integer, with a sign if it is below 0."""
    return word != "-0" and is_count(word.removeprefix("-"))
