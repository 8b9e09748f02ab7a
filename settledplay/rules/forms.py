"""Games as data: kinds, entries, a start and an arena, and whether they are sound."""

from settledplay.base.checks import is_name, is_within
from settledplay.base.luck import is_luck
from settledplay.base.numbers import is_number
from settledplay.errors import InvalidGame, InvalidNumber, UnknownName
from settledplay.rules.pieces import LOOPS, Around, is_right, sites_of_row, sites_within

MAX_SIZE = 60
MAX_WITHIN = 2
MAX_THINGS = 12
MAX_WORK = 20000

MAX_KINDS = 6
MAX_FIELDS = 8
MAX_ENTRIES = 16
MAX_SEATS = 4
MAX_ARENA = 400
MAX_BODY = 40
BODY_FIELDS = ("x", "y", "dx", "dy")
# How many times a piece is done for one thing, by how many loops it is within.
TIMES = (1, 12, 144)


class Kind:
    """A kind of things, as it is asked for while a game runs."""

    def __init__(self, told):
        self.name = told[0]
        self.fields = tuple([field for field, _ in told[1]])
        self.places = {field: at for at, field in enumerate(self.fields)}
        self.firsts = tuple([number for _, number in told[1]])
        self.body = told[2]

    def is_solid(self):
        """Whether things of the kind stop others."""
        return self.body is not None and self.body[2]


class Game:
    """A sound game."""

    def __init__(self, kinds, entries, start, *, arena, seats=2, luck=0):
        fault = game_fault(kinds, entries, start, arena=arena, seats=seats, luck=luck)
        if fault is not None:
            raise InvalidGame(f"the game has a fault: {fault[0]}")
        self.kinds = kinds
        self.entries = entries
        self.start = start
        self.arena = arena
        self.seats = seats
        self.luck = luck
        self.names = tuple([kind[0] for kind in kinds])
        self.table = kinds_table(kinds)

    def has_kind(self, kind):
        """Whether a value is the name of a kind."""
        return isinstance(kind, str) and kind in self.table

    def fields(self, kind):
        """The names of the fields of a kind."""
        if not self.has_kind(kind):
            raise UnknownName(kind)
        return self.table[kind].fields

    def body(self, kind):
        """The body of a kind, None for a kind without one."""
        if not self.has_kind(kind):
            raise UnknownName(kind)
        return self.table[kind].body

    def __eq__(self, other):
        return isinstance(other, Game) and parts_of(self) == parts_of(other)


def parts_of(game):
    """All parts that a game is made of."""
    return (game.kinds, game.entries, game.start, game.arena, game.seats, game.luck)


def need_game(value):
    """Refuse what is no game."""
    if not isinstance(value, Game):
        raise InvalidGame("a game is an object of its class")


def kinds_table(kinds):
    """The kinds by their names."""
    return {told[0]: Kind(told) for told in kinds}


def game_fault(kinds, entries, start, *, arena, seats=2, luck=0):
    """The first fault of the parts of a game, None if they are sound."""
    fault = kinds_fault(kinds)
    if fault is not None:
        return fault
    table = kinds_table(kinds)
    for fault in (entries_fault(table, entries), start_fault(table, start)):
        if fault is not None:
            return fault
    if not is_arena(arena):
        return ("arena",)
    if not is_within(seats, 1, MAX_SEATS):
        return ("seats",)
    if not is_luck(luck):
        return ("luck",)
    if sum([entry_work(table, entry) for entry in entries]) > MAX_WORK:
        return ("work",)
    return None


def is_arena(value):
    """Whether the value is a width and a height that an arena can have."""
    if not isinstance(value, tuple) or len(value) != 2:
        return False
    return all([is_within(length, 1, MAX_ARENA) for length in value])


def kinds_fault(kinds):
    """The first fault of the kinds."""
    if not isinstance(kinds, tuple) or not 1 <= len(kinds) <= MAX_KINDS:
        return ("kinds",)
    names = []
    for at, kind in enumerate(kinds):
        if not is_kind(kind) or kind[0] in names:
            return ("kinds", at)
        names.append(kind[0])
    return None


def is_kind(value):
    """Whether the value is a name, fields and a body that go together."""
    if not isinstance(value, tuple) or len(value) != 3:
        return False
    name, fields, body = value
    if not is_name(name) or not are_fields(fields):
        return False
    if body is None:
        return True
    names = [field for field, _ in fields]
    return is_body(body) and all([field in names for field in BODY_FIELDS])


def are_fields(value):
    """Whether the value is a tuple of 1 to 8 pairs of unlike names and of numbers."""
    if not isinstance(value, tuple) or not 1 <= len(value) <= MAX_FIELDS:
        return False
    if not all([isinstance(pair, tuple) and len(pair) == 2 for pair in value]):
        return False
    if not all([is_name(field) and is_number(number) for field, number in value]):
        return False
    return len({field for field, _ in value}) == len(value)


def is_body(value):
    """Whether the value is a width, a height, and whether it is solid."""
    if not isinstance(value, tuple) or len(value) != 3:
        return False
    width, height, solid = value
    return is_within(width, 1, MAX_BODY) and is_within(height, 1, MAX_BODY) and isinstance(solid, bool)


def entries_fault(table, entries):
    """The first fault of the entries."""
    if not isinstance(entries, tuple) or not 1 <= len(entries) <= MAX_ENTRIES:
        return ("entries",)
    for at, entry in enumerate(entries):
        path = wrong_path(table, entry)
        if path is not None:
            return ("entries", at, path)
    return None


def wrong_path(table, entry):
    """The path of the first wrong piece of an entry, () for an entry of neither sort, None if all are right."""
    if not is_entry(table, entry):
        return ()
    seen = 0
    waiting = sites_of_entry(table, entry)
    while len(waiting) > 0:
        site = waiting.pop()
        seen = seen + 1
        if seen > MAX_SIZE or not is_right(site) or is_too_deep(site):
            return site.path
        waiting.extend(list(reversed(sites_within(site))))
    return None


def is_entry(table, value):
    """Whether the value is an entry, whatever stands in its row."""
    if not isinstance(value, tuple) or len(value) not in (1, 3):
        return False
    if len(value) == 1:
        return value == ("move",)
    return value[0] == "for" and is_name(value[1]) and value[1] in table and isinstance(value[2], tuple)


def sites_of_entry(table, entry):
    """The sites of the statements of an entry, the last one first."""
    if entry[0] == "move":
        return []
    return list(reversed(sites_of_row((2,), entry[2], Around(table, entry[1], {}, 0))))


def is_too_deep(site):
    """Whether a right piece is a loop within too many."""
    return site.around.depth >= MAX_WITHIN and isinstance(site.piece, tuple) and site.piece[0] in LOOPS


def start_fault(table, start):
    """The first fault of the start."""
    if not isinstance(start, tuple) or len(start) > MAX_THINGS:
        return ("start",)
    for at, pair in enumerate(start):
        if not is_start(table, pair):
            return ("start", at)
    return None


def is_start(table, value):
    """Whether the value is a kind and a number for each of its fields."""
    if not isinstance(value, tuple) or len(value) != 2:
        return False
    kind, numbers = value
    if not is_name(kind) or kind not in table or not isinstance(numbers, tuple):
        return False
    return len(numbers) == len(table[kind].fields) and all([is_number(number) for number in numbers])


def entry_work(table, entry):
    """The work of a right entry."""
    total = 0
    waiting = sites_of_entry(table, entry)
    while len(waiting) > 0:
        site = waiting.pop()
        total = total + TIMES[site.around.depth]
        waiting.extend(sites_within(site))
    return total * MAX_THINGS


def work(game, number):
    """The work of an entry of a game."""
    need_game(game)
    if not is_within(number, 0, len(game.entries) - 1):
        raise InvalidNumber(number)
    return entry_work(game.table, game.entries[number])
