"""Values, judges and a second, naive engine that the tests share."""

from random import Random

from settledplay.disk.book import Disk
from settledplay.errors import InvalidNumber, ParseError, PlayError, Refused, TooMany, UnknownName
from settledplay.keep.ring import Ring
from settledplay.match.effects import Ear
from settledplay.match.match import Standing
from settledplay.net.bag import Bag
from settledplay.play.keys import Setup
from settledplay.play.step import next_world
from settledplay.play.timeline import Timeline
from settledplay.rules.forms import Game
from settledplay.seat.host import Host
from settledplay.seat.joining import Gathering
from settledplay.seat.player import Player
from settledplay.tape.tapes import Seeker, Tape
from settledplay.world.worlds import World, first_world, world_text

MODULUS = 999999937

PLACE = (("x", 0), ("y", 0), ("dx", 0), ("dy", 0))
KINDS = (("hero", PLACE + (("seat", 0),), (1, 1, True)), ("coin", PLACE, (1, 1, False)))
GRAB = ("first", "hero", "h", ("meets", "h", 0), (("tell", 1, ("of", "h", "seat")), ("drop", "")), ())
ENTRIES = (
    ("for", "hero", (("set", "dx", ("minus", ("key", 1), ("key", 0))),)),
    ("move",),
    ("for", "coin", (GRAB,)),
)
START = (("hero", (2, 2, 0, 0, 0)), ("hero", (8, 2, 0, 0, 1)), ("coin", (5, 2, 0, 0)))
COINS = Game(KINDS, ENTRIES, START, arena=(12, 6))
PAIR = Setup(COINS, window=3, delay=1, patience=2, silence=3)
ROW = ((2, 0), (2, 1), (0, 65))


def deep(value, many):
    """The value within so many tuples."""
    for _ in range(many):
        value = (value,)
    return value


# What no function takes but for what it is: values of all kinds that must be refused where they do not belong.
JUNK = (
    None, True, False, -1, 10 ** 60, -10 ** 60, 10 ** 99, -10 ** 99, "", "0", "a\nb", "~" * 3000, (), (1,), ((),),
    deep("a", 20), [], [0], [[]], {}, {"a": 1}, {0: ()}, (True, True), ("x", "y"), COINS, World(0, 0, 0, ()),
    PlayError("x"), PAIR, Ring(World(0, 0, 0, ())), Timeline(PAIR, 0), Bag(), Host(PAIR), Disk(), Gathering(PAIR, 1), Player(PAIR, 1),
    Standing(PAIR), Ear(), Tape(COINS, ()), Seeker(Tape(COINS, ())),
)


def spoiled(value):
    """Each junk value, and the value with each junk value in the place of each of its members, however deep these stand."""
    yield from JUNK
    if isinstance(value, tuple):
        for at, member in enumerate(value):
            for other in spoiled(member):
                yield (*value[:at], other, *value[at + 1:])


def error_of(call, *args, **named):
    """The name of the error that a call raises, with what it keeps; None for no error."""
    try:
        call(*args, **named)
    except ParseError as error:
        return ("ParseError", repr(error.spot))
    except InvalidNumber as error:
        return ("InvalidNumber", repr(error.given))
    except UnknownName as error:
        return ("UnknownName", repr(error.wanted))
    except TooMany as error:
        return ("TooMany", repr(error.limit))
    except Refused as error:
        return ("Refused", repr(error.reason))
    except PlayError as error:
        return (type(error).__name__,)
    return None


def number_error(value):
    """What error_of tells of InvalidNumber with the value."""
    return ("InvalidNumber", repr(value))


def name_error(value):
    """What error_of tells of UnknownName with the value."""
    return ("UnknownName", repr(value))


def whole_choices(*more):
    """Wrong values for an integer from 0 on."""
    return [(value, number_error(value)) for value in (-1, True, False, None, "1", 10 ** 60, (1,), [2], *more)]


def check_order(test, function, good, wrong, keywords=()):
    """Each wrong value is refused with its error; of two wrong ones the first parameter's error is raised.

    `good` are arguments that are taken, `wrong` lists pairs of values and errors for each of them; the last
    arguments are passed by the names in `keywords`.
    """
    def outcome(args):
        many = len(args) - len(keywords)
        return error_of(function, *args[:many], **dict(zip(keywords, args[many:])))

    test.assertIsNone(outcome(list(good)))
    for i, choices in enumerate(wrong):
        for value, error in choices:
            args = list(good)
            args[i] = value
            test.assertEqual(outcome(args), error, (function, i, value))
            for j in range(i + 1, len(good)):
                for later, _ in wrong[j]:
                    more = list(args)
                    more[j] = later
                    test.assertEqual(outcome(more), error, (function, i, value, j, later))


def refused_all(test, call, error, accepted=()):
    """Each junk value is refused with an error of this name, but for those of the told indices."""
    for at, value in enumerate(JUNK):
        found = error_of(call, value)
        if at in accepted:
            test.assertIsNone(found, value)
        else:
            test.assertEqual((found or ("none",))[0], error, value)


def strict(value):
    """The value with its class at each place, as 1 == True for Python alone."""
    if isinstance(value, (tuple, list)):
        return (type(value).__name__, [strict(member) for member in value])
    return (type(value).__name__, value)


class Dice:
    """Sound games, worlds of them and joint words, as a seed tells."""

    def __init__(self, seed):
        self.random = Random(seed)

    def some(self, *choices):
        """One of the choices."""
        return self.random.choice(choices)

    def number(self):
        """A number, most often a small one."""
        return self.some(0, 0, 1, 1, 2, 3, 5, -1, -2, -4, 7, 40, 1000000000, -1000000000)

    def game(self, plain=False):
        """A sound game; a plain one has neither `id` nor `draw`."""
        while True:
            self.plain = plain
            self.kinds = tuple(self.kind(name) for name in ("ant", "bee", "cat")[:self.random.randint(1, 3)])
            self.table = {kind[0]: kind for kind in self.kinds}
            entries = tuple(self.entry() for _ in range(self.random.randint(1, 4)))
            start = tuple(self.thing() for _ in range(self.random.randint(0, 9)))
            arena = (self.random.randint(1, 14), self.random.randint(1, 14))
            try:
                return Game(self.kinds, entries, start, arena=arena, seats=self.random.randint(1, 4),
                            luck=self.random.randrange(MODULUS))
            except PlayError:
                # Too many pieces or too much work.
                continue

    def kind(self, name):
        """A kind."""
        fields = [("x", 1), ("y", 2), ("dx", 1), ("dy", 0)] + self.some([], [("seat", 0)], [("n", -3), ("seat", 1)])
        body = (self.random.randint(1, 3), self.random.randint(1, 3), self.some(True, True, False))
        if self.random.random() < 0.2:
            fields, body = fields[3:], None
        self.random.shuffle(fields)
        return (name, tuple(fields), body)

    def thing(self):
        """A kind and numbers of a thing at the start."""
        name, fields, _ = self.some(*self.kinds)
        return (name, tuple(self.field_number(field) for field, _ in fields))

    def field_number(self, field):
        """A number for a field, so that things are near one another."""
        if field in ("x", "y"):
            return self.random.randint(-2, 14)
        return self.random.randint(0, 4) if field == "seat" else self.some(0, 1, -1, 2, -3, 9, self.number())

    def entry(self):
        """An entry."""
        if self.random.random() < 0.2:
            return ("move",)
        self.own = self.some(*self.kinds)[0]
        self.names = 0
        return ("for", self.own, self.row({}, 0, 3))

    def row(self, known, loops, size):
        """A row of statements."""
        known = dict(known)
        found = []
        for _ in range(self.random.randint(0, size)):
            piece = self.statement(known, loops, size)
            if piece[0] == "let":
                known[piece[1]] = None
            found.append(piece)
        return tuple(found)

    def fresh(self):
        """A name that is not known anywhere."""
        self.names += 1
        return "v" + "abcdefghijklmnopqrstuvwxyz"[self.names % 26] + "abcdefghij"[self.names // 26 % 10]

    def field_of(self, kind):
        """A field of a kind."""
        return self.some(*self.table[kind][1])[0]

    def statement(self, known, loops, size):
        """A statement."""
        things = [name for name in known if known[name]]
        words = ["set", "set", "let", "when", "make", "drop", "tell", "tell"] + ["give", "drop", "give"] * bool(things)
        word = self.some(*words, *["each", "first", "each"] * (loops < 2))
        kind = self.some(*self.kinds)[0]
        part = self.part(known, loops, 2)
        if word == "set":
            return ("set", self.field_of(self.own), part)
        if word == "give":
            name = self.some(*things)
            return ("give", name, self.field_of(known[name]), part)
        if word == "let":
            return ("let", self.fresh(), part)
        if word == "when":
            return ("when", part, self.row(known, loops, size - 1), self.row(known, loops, size - 1))
        if word == "make":
            fields = [field for field, _ in self.table[kind][1] if self.random.random() < 0.4]
            return ("make", kind, tuple((field, self.part(known, loops, 1)) for field in fields))
        if word == "drop":
            return ("drop", self.some("", *things))
        if word == "tell":
            return ("tell", self.random.randint(0, 99), part)
        name = self.fresh()
        inner = dict(known)
        inner[name] = kind
        if word == "each":
            return ("each", kind, name, self.row(inner, loops + 1, size - 1))
        return ("first", kind, name, self.part(inner, loops + 1, 2), self.row(inner, loops + 1, size - 1),
                self.row(known, loops + 1, size - 1))

    def part(self, known, loops, depth):
        """An expression."""
        things = [name for name in known if known[name]]
        lets = [name for name in known if not known[name]]
        words = ["number", "own", "own", "key", "tick"] + ["id", "draw", "draw"] * (not self.plain)
        words += ["of", "of", "of"] * bool(things) + ["var"] * bool(lets)
        words += ["op", "op", "op", "not", "if"] * (depth > 0) + ["count"] * (depth > 0 and loops < 2)
        near = [name for name in things if self.table[known[name]][2] and self.table[self.own][2]]
        words += ["meets", "meets"] * (depth > 0 and bool(near))
        word = self.some(*words)
        inner = [self.part(known, loops, depth - 1) for _ in range(3 * (depth > 0))]
        if word == "number":
            return self.number()
        if word == "own":
            return ("own", self.field_of(self.own))
        if word == "of":
            name = self.some(*things)
            return ("of", name, self.field_of(known[name]))
        if word == "var":
            return ("var", self.some(*lets))
        if word == "op":
            return (self.some(*OPERATIONS), inner[0], inner[1])
        if word == "count":
            name, kind = self.fresh(), self.some(*self.kinds)[0]
            more = dict(known)
            more[name] = kind
            return ("count", kind, name, self.part(more, loops + 1, depth - 1))
        few = {"key": (self.random.randint(0, 5),), "tick": (), "id": (), "draw": (self.some(1, 2, 6, 1000),),
               "not": inner[:1], "if": inner, "meets": (self.some(*near, ""), *inner[:1])}
        return (word, *few[word])

    def world(self, game):
        """A world of the game that need not come of its start."""
        many = self.some(0, 1, 2, 4, 6, 9, 11, 12, 12)
        base = self.some(0, 0, 3, 10 ** 9 - 2, 10 ** 60 - 60)
        ids = sorted(self.random.sample(range(base, base + 20), many))
        self.kinds = game.kinds
        things = tuple((at, *self.thing()) for at in ids)
        next_id = (ids[-1] + 1 if ids else base) + self.some(0, 0, 1, 5)
        tick = self.some(0, 1, 7, 10 ** 9 - 1, 10 ** 9, 10 ** 60 - 1)
        return World(tick, next_id, self.random.randrange(MODULUS), things)

    def joint(self, game):
        """A joint word."""
        return tuple(self.some(-1, 0, 1, 2, 63, 64, 127, self.random.randint(-1, 127)) for _ in range(game.seats))

    def setup(self, game):
        """A setup of the game."""
        starters = (0, *[seat for seat in range(1, game.seats) if self.random.random() < 0.6])
        guesses = tuple(self.some(0, 1, at, at) for at in range(64))
        return Setup(game, window=self.random.randint(1, 12), delay=self.random.randint(0, 8), spacing=self.random.randint(1, 6),
                     starters=self.some(None, starters, starters), lookers=self.random.randint(0, 2),
                     guesses=self.some(None, guesses))

    def small_setup(self, game):
        """A setup with small numbers, so that much happens within few acts."""
        starters = (0, *[seat for seat in range(1, game.seats) if self.random.random() < 0.6])
        return Setup(game, window=self.random.randint(1, 5), delay=self.random.randint(0, 4), spacing=self.random.randint(1, 6),
                     patience=self.random.randint(1, 4), silence=self.random.randint(1, 4), starters=starters,
                     lookers=self.random.randint(0, 2), guesses=self.some(None, None, tuple(at ^ 1 for at in range(64))))

    def act(self, setup, letters, falls=True):
        """An act that a standing of a setup with so many letters can take."""
        most = setup.seats + setup.lookers - 1
        place = self.random.randint(min(1, most), most)
        words = ["host"] * 4 + ["beat"] * 5 * (most > 0) + ["tell"] * 3 + ["hand"] * 6 * (letters > 0)
        words += ["come", "come", "go"] * (most > 0) * self.some(0, 0, 0, 1) + ["fall"] * falls
        word = self.some(*words)
        if word in ("host", "beat"):
            return ("beat", 0 if word == "host" else place, self.random.randint(0, 3))
        if word == "hand":
            return ("hand", max(0, letters - 1 - self.random.randrange(self.some(3, 9, letters))))
        if word == "fall":
            return ("fall", self.some(0, 0, 1, 2, 1000), self.some(0, 0, 1, 3, 6, 1000))
        return ("tell",) if word == "tell" else (word, place)

    def schedule(self, setup, length, falls=True):
        """Acts that can be done one behind the other."""
        standing, acts = Standing(setup), []
        for _ in range(length):
            acts.append(self.act(setup, len(standing.bag), falls))
            standing = standing.after(acts[-1])
        return tuple(acts)

    def match_row(self, setup, length):
        """A row of the setup: each seat stays from some tick to some tick."""
        columns = []
        for seat in range(setup.seats):
            begin = 0 if seat in setup.starters else self.some(0, 1, self.random.randint(0, length), length)
            end = self.some(length, length, self.random.randint(0, length)) if seat else length
            columns.append([self.some(0, 1, 2, 3, 63, 64, 65, 127, self.random.randint(0, 127)) if begin <= tick < end else -1
                            for tick in range(length)])
        return tuple(zip(*columns))

    def own_words(self, first, length):
        """Own words for some ticks."""
        return {tick: self.random.randint(0, 3) for tick in range(first, first + length) if self.random.random() < 0.7}

    def near(self, world, joint):
        """A world and a joint word that are a little unlike, the same ids and kinds but for one at the most."""
        things = [[at, kind, list(numbers)] for at, kind, numbers in world.things]
        tick, next_id, luck, joint = world.tick, world.next_id, world.luck, list(joint)
        for _ in range(self.random.randint(1, 2)):
            what = self.random.randrange(9)
            if what == 0:
                tick = self.some(0, 5)
            elif what == 1:
                luck = self.random.randrange(MODULUS)
            elif what == 2:
                next_id = self.some(next_id, next_id + 1)
            elif what == 3:
                joint[self.random.randrange(len(joint))] = self.random.randint(-1, 127)
            elif what == 4 and things:
                del things[self.random.randrange(len(things))]
            elif things:
                numbers = self.some(*things)[2]
                numbers[self.random.randrange(len(numbers))] = self.some(0, 1, 2, 5, 9)
        things = tuple((at, kind, tuple(numbers)) for at, kind, numbers in things)
        return World(tick, next_id, luck, things), tuple(joint)


def clamp(integer):
    """The nearest number."""
    return sorted((-1000000000, integer, 1000000000))[1]


OPERATIONS = {
    "plus": lambda a, b: clamp(a + b),
    "minus": lambda a, b: clamp(a - b),
    "times": lambda a, b: clamp(a * b),
    "over": lambda a, b: b and a // b,
    "rest": lambda a, b: b and a % b,
    "least": min,
    "most": max,
    "less": lambda a, b: int(a < b),
    "same": lambda a, b: int(a == b),
    "both": lambda a, b: int(bool(a and b)),
    "any": lambda a, b: int(bool(a or b)),
}


class Naive:
    """The second engine: one world that changes in place, and moves unit by unit.

    What a run reads and does is noted beside it, as [5.5] and [5.6] tell; the engine itself makes no use of this.
    """

    def __init__(self, game, world, joint):
        self.game, self.tick, self.luck, self.next = game, world.tick, world.luck, world.next_id
        self.words = [0 if entry < 0 else entry % 64 for entry in joint]
        self.fields = {name: [field for field, _ in fields] for name, fields, _ in game.kinds}
        self.bodies = {name: body for name, _, body in game.kinds}
        self.things = {at: [kind, dict(zip(self.fields[kind], numbers))] for at, kind, numbers in world.things}
        self.effects = []
        self.is_cut = False
        self.records = []

    def step(self):
        """All runs of a step."""
        for at, entry in enumerate(self.game.entries):
            for thing in sorted(self.things):
                if thing not in self.things:
                    continue
                kind = self.things[thing][0]
                if entry[0] == "move" and self.bodies[kind]:
                    self.begin(at, thing)
                    self.move(thing)
                    self.end()
                # What is made in this entry has no turn in it: its id is not among those that were sorted.
                if entry[0] == "for" and entry[1] == kind:
                    self.run(at, thing)
        self.tick += 1
        self.luck = (48274 * self.luck + 271829) % MODULUS

    def run(self, at, thing):
        """One run of statements."""
        self.begin(at, thing)
        self.row(self.game.entries[at][2])
        self.end()

    def begin(self, at, thing):
        """Note the world as it is."""
        self.at, self.own, self.turn, self.known = at, thing, 0, {}
        self.former = {at: [kind, dict(fields)] for at, (kind, fields) in self.things.items()}
        self.former_next, self.former_effects = self.next, len(self.effects)
        self.reads, self.sets = {}, set()

    def end(self):
        """Note the record of the run."""
        sets = sorted((thing, field, self.things[thing][1][field]) for thing, field in self.sets
                      if thing in self.things and thing in self.former)
        made = [(thing, kind, tuple(fields[field] for field in self.fields[kind]))
                for thing, (kind, fields) in sorted(self.things.items()) if thing not in self.former]
        gone = [(thing, self.former[thing][0]) for thing in sorted(self.former) if thing not in self.things]
        self.records.append((self.at, self.own, tuple(sorted(self.reads.items())), tuple(sets), tuple(made), tuple(gone),
                             self.next - self.former_next, tuple(self.effects[self.former_effects:])))

    def asked(self, thing, field):
        """Note that a field of a thing that is there is asked for."""
        if thing in self.former and (thing, field) not in self.sets:
            self.reads["field", thing, field] = self.former[thing][1].get(field)

    def asked_ids(self, kind):
        """Note that the ids of a kind are asked for."""
        self.reads["ids", kind] = tuple(at for at in sorted(self.former) if self.former[at][0] == kind)

    def told(self):
        """The triple of the properties of the world."""
        things = tuple((at, kind, tuple(fields[field] for field in self.fields[kind]))
                       for at, (kind, fields) in sorted(self.things.items()))
        return self.tick, self.next, self.luck, things

    def ids(self, kind):
        self.asked_ids(kind)
        return [at for at in sorted(self.things) if self.things[at][0] == kind]

    def row(self, row):
        for piece in row:
            getattr(self, "do_" + piece[0])(*piece[1:])

    def do_set(self, field, e):
        self.store(self.own, field, self.value(e))

    def do_give(self, t, field, e):
        self.store(self.known[t], field, self.value(e))

    def store(self, thing, field, number):
        if thing in self.things:
            self.things[thing][1][field] = number
            self.sets.add((thing, field))

    def do_let(self, v, e):
        self.known[v] = self.value(e)

    def do_when(self, e, one, other):
        self.row(one if self.value(e) else other)

    def do_each(self, kind, t, row):
        for thing in self.ids(kind):
            if thing in self.things:
                self.known[t] = thing
                self.row(row)

    def do_first(self, kind, t, e, row, other):
        for thing in self.ids(kind):
            self.known[t] = thing
            if self.value(e):
                return self.row(row)
        return self.row(other)

    def do_make(self, kind, pairs):
        fields = dict([told for told in self.game.kinds if told[0] == kind][0][1])
        for field, e in pairs:
            fields[field] = self.value(e)
        self.reads["many",] = len(self.former)
        if len(self.things) < 12:
            self.reads["next",] = self.former_next
            self.things[self.next] = [kind, fields]
            self.next += 1

    def do_drop(self, t):
        self.things.pop(self.own if t == "" else self.known[t], None)

    def do_tell(self, code, e):
        self.effects.append((code, self.value(e)))

    def value(self, e):
        if isinstance(e, int):
            return e
        word = e[0]
        if word in OPERATIONS:
            one = self.value(e[1])
            return OPERATIONS[word](one, self.value(e[2]))
        return getattr(self, "of_" + word)(*e[1:])

    def load(self, thing, field):
        if thing not in self.things:
            return 0
        self.asked(thing, field)
        return self.things[thing][1][field]

    def of_own(self, field):
        return self.load(self.own, field)

    def of_of(self, t, field):
        return self.load(self.known[t], field)

    def of_var(self, v):
        return self.known[v]

    def of_key(self, bit):
        if self.own not in self.things:
            return 0
        self.asked(self.own, "seat")
        seat = self.things[self.own][1].get("seat")
        if seat is None:
            return 0
        word = self.words[seat] if 0 <= seat < self.game.seats else None
        self.reads["key", seat] = word
        return (word or 0) >> bit & 1

    def of_tick(self):
        self.reads["tick",] = self.tick
        return clamp(self.tick)

    def of_id(self):
        return clamp(self.own)

    def of_draw(self, sides):
        self.reads["luck",] = number = self.luck
        for part in (0, self.at, self.own, self.turn):
            number = (pow((number + part) % MODULUS, 5, MODULUS) + 271829) % MODULUS
        self.turn += 1
        return number * sides // MODULUS

    def of_not(self, e):
        return int(self.value(e) == 0)

    def of_if(self, e, one, other):
        return self.value(one) if self.value(e) else self.value(other)

    def of_count(self, kind, t, e):
        many = 0
        for thing in self.ids(kind):
            self.known[t] = thing
            many += bool(self.value(e))
        return many

    def of_meets(self, t, e):
        grown = self.value(e)
        if self.own not in self.things or self.known[t] not in self.things:
            return 0
        for thing in (self.own, self.known[t]):
            self.asked(thing, "x")
            self.asked(thing, "y")
        x, y, width, height = self.box(self.own)
        return int(overlap((x - grown, y - grown, width + 2 * grown, height + 2 * grown), self.box(self.known[t])))

    def box(self, thing):
        kind, fields = self.things[thing]
        return (fields["x"], fields["y"], *self.bodies[kind][:2])

    def move(self, thing):
        """Unit by unit, until one is barred."""
        self.reads["kind", thing] = self.things[thing][0]
        for field in ("x", "y", "dx", "dy"):
            self.asked(thing, field)
        for kind, body in self.bodies.items():
            if body and body[2]:
                for other in self.ids(kind):
                    self.asked(other, "x")
                    self.asked(other, "y")
        self.sets = {(thing, "x"), (thing, "y")}
        fields = self.things[thing][1]
        others = [self.box(at) for at in self.things if at != thing and self.bodies[self.things[at][0]]
                  and self.bodies[self.things[at][0]][2]]
        for field, far in (("x", fields["dx"]), ("y", fields["dy"])):
            unit = 1 if far > 0 else -1
            # A way that is longer than this is cut, and the step is no measure.
            self.is_cut = self.is_cut or abs(far) > 2000 and not -900 < fields[field] < 900
            for _ in range(min(abs(far), 2000)):
                before = self.box(thing)
                fields[field] += unit
                if not may_stand(before, self.box(thing), others, self.game.arena):
                    fields[field] -= unit
                    break


def may_stand(before, after, others, arena):
    """Whether a unit from a box to a box is barred by nothing."""
    for axis in (0, 1):
        if after[axis] < before[axis] and after[axis] < 0:
            return False
        if after[axis] > before[axis] and after[axis] + after[axis + 2] > arena[axis]:
            return False
    return not any(overlap(after, other) and not overlap(before, other) for other in others)


def overlap(one, other):
    """Whether two boxes have a place in common; a box can have a width or a height below 1."""
    if min(one[2], one[3], other[2], other[3]) < 1:
        return False
    apart = one[0] + one[2] <= other[0] or other[0] + other[2] <= one[0]
    return not (apart or one[1] + one[3] <= other[1] or other[1] + other[3] <= one[1])


def naive_used(setup, row, seat, own, tick):
    """Used words as they are told."""
    words = []
    for at in range(setup.seats):
        if tick < len(row):
            words.append(-1 if row[tick][at] == -1 else row[tick][at] & 63)
        elif (row[-1][at] == -1) if row else at not in setup.starters:
            words.append(-1)
        elif at == seat:
            words.append(own[tick] if tick in own else 0)
        else:
            words.append(setup.guesses[row[-1][at] & 63 if row else 0])
    return tuple(words)


def naive_stay(setup, row, seat):
    """How a seat stands behind a row."""
    column = [seat in setup.starters, *[joint[seat] != -1 for joint in row]]
    if column[-1]:
        return "in"
    return "out" if any(column) else "ahead"


def naive_print(text):
    """The print of a text, as one sum."""
    return sum(ord(sign) * 31 ** (len(text) - 1 - at) for at, sign in enumerate(text)) % MODULUS


class NaiveLine:
    """A timeline that makes its worlds anew whenever they are asked for."""

    def __init__(self, setup, seat, world, memo):
        self.setup, self.seat, self.start, self.base, self.memo = setup, seat, world, world.tick, memo
        self.row, self.own, self.shown = (), {}, world.tick

    @property
    def settled(self):
        return self.base + len(self.row)

    def press(self, word):
        last = self.shown + self.setup.delay
        if naive_stay(self.setup, self.row, self.seat) == "ahead":
            last = self.settled + self.setup.window + self.setup.delay - 1
        for tick in range(self.settled, last + 1):
            self.own.setdefault(tick, word)

    def tell(self, first, words):
        if first > self.settled:
            return
        have = range(max(first, self.base), min(first + len(words), self.settled))
        if any(words[tick - first] != self.row[tick - self.base] for tick in have):
            return
        self.row += words[self.settled - first:]
        self.own = {tick: word for tick, word in self.own.items() if tick >= self.settled}
        self.shown = max(self.shown, self.settled - self.setup.delay)

    def used(self, tick):
        at, many = tick - self.base, len(self.row)
        return naive_used(self.setup, self.row, self.seat, {many: self.own.get(tick, 0)}, min(at, many))

    def world(self, tick):
        """The world of a tick; each one is made once, as the same ones are asked for again and again."""
        words, world = [], self.start
        for at in range(self.base, tick):
            words.append(self.used(at))
            key = (world_text(self.start), tuple(words))
            if key not in self.memo:
                self.memo[key] = next_world(self.setup.game, world, words[-1])
            world = self.memo[key]
        return world


class NaiveHost:
    """A host as it is told, that changes in place."""

    def __init__(self, setup, memo):
        self.setup, self.memo = setup, memo
        self.begin((), first_world(setup.game))

    def begin(self, row, world):
        """Begin behind a row whose plain world this is."""
        self.closed = self.row = row
        self.line = NaiveLine(self.setup, 0, world, self.memo)
        self.waiting, self.marks, self.offers, self.idle, self.goers = {}, {}, {}, 0, set()

    def stay(self, seat):
        return naive_stay(self.setup, self.closed, seat)

    def entry(self, seat, patience_is_over):
        """The entry of a seat for the next tick, None if it lacks."""
        tick = len(self.closed)
        word = self.line.own.get(tick) if seat == 0 else self.waiting.get((seat, tick))
        last = [joint[seat] for joint in self.closed]
        if seat == 0:
            return word
        if self.stay(seat) == "out":
            return -1
        if self.stay(seat) == "ahead":
            return -1 if word is None else word
        silence = self.setup.silence
        if seat in self.goers or (tick >= silence and min(last[-silence:]) >= 64):
            return -1
        if word is None and patience_is_over:
            return 64 + (last[-1] & 63 if last else 0)
        return word

    def close(self, patience_is_over):
        """Close the next tick, if this can be done."""
        joint = tuple(self.entry(seat, patience_is_over) for seat in range(self.setup.seats))
        if None in joint:
            return False
        self.closed += (joint,)
        return True

    def beat(self, word):
        line, many = self.line, len(self.closed)
        if line.shown - line.settled < self.setup.window:
            line.press(word)
            line.shown += 1
        while self.close(False):
            pass
        if len(self.closed) == many:
            self.idle += 1
            if self.idle >= self.setup.patience and self.close(True):
                while self.close(False):
                    pass
        if len(self.closed) > many:
            self.idle = 0
        self.forget()

    def forget(self):
        """Let go what waits no more."""
        self.waiting = {(seat, tick): word for (seat, tick), word in self.waiting.items()
                        if tick >= len(self.closed) and self.stay(seat) != "out"}
        self.goers = {seat for seat in self.goers if self.stay(seat) == "in"}

    def tell(self):
        self.line.tell(len(self.row), self.closed[len(self.row):])
        self.row = self.closed

    def hear(self, letter):
        place = letter[1]
        is_seat = place < self.setup.seats
        is_in = is_seat and self.stay(place) == "in"
        if letter[0] == "keys":
            self.marks[place] = max(self.marks.get(place, 0), min(letter[2], len(self.row)))
            self.offers.pop(place, None)
            for tick, word in enumerate(letter[3], letter[2]):
                if is_seat:
                    self.waiting.setdefault((place, tick), word)
            self.forget()
        elif letter[2] == "come" and not is_in and place not in self.offers:
            self.offers[place] = self.line.world(self.line.settled)
        elif letter[2] == "go" and is_in:
            self.goers.add(place)

    def mail(self):
        letters = []
        for place in range(1, self.setup.seats + self.setup.lookers):
            mark = self.marks.get(place, 0)
            if place in self.offers:
                letters += naive_offer(place, self.offers[place])
            elif place in self.marks or (place < self.setup.seats and self.stay(place) == "in"):
                letters.append(("rows", place, mark, self.row[mark:][:2 * self.setup.window + self.setup.delay]))
        return tuple(letters)

    def told(self):
        """All properties of the host."""
        waiting = {}
        for seat, tick in sorted(self.waiting):
            waiting.setdefault(seat, {})[tick] = self.waiting[seat, tick]
        return (self.closed, self.row, waiting, dict(sorted(self.marks.items())), dict(sorted(self.offers.items())), self.idle,
                tuple(sorted(self.goers)))


def naive_offer(place, world):
    """The letters of an offer."""
    text, pieces = world_text(world), []
    while text:
        pieces.append(text[:200])
        text = text[200:]
    return [("piece", place, world.tick, at, len(pieces), piece) for at, piece in enumerate(pieces)]


def told_of_host(host):
    """The properties of a host as NaiveHost tells them."""
    return (host.closed, host.row, host.waiting, host.marks, host.offers, host.idle, host.goers)


def orders_of(value):
    """A dict, and those in it, as lists, so that their order counts."""
    return [(key, orders_of(item)) for key, item in value.items()] if isinstance(value, dict) else value


def check_line(test, line, naive):
    """A timeline is what the naive one is."""
    test.assertEqual((line.seat, line.base, line.row, line.settled, line.own, line.shown),
                     (naive.seat, naive.base, naive.row, naive.settled, naive.own, naive.shown))
    test.assertEqual((line.settled_world, line.shown_world), (naive.world(naive.settled), naive.world(naive.shown)))


class NaiveMachine:
    """The machine of a place from 1 on as it is told, that changes in place."""

    def __init__(self, setup, place, memo):
        self.setup, self.place, self.memo = setup, place, memo
        self.seat = place if place < setup.seats else None
        self.state, self.line, self.pieces = "away", None, None
        if place in setup.starters:
            self.state, self.line = "there", NaiveLine(setup, place, first_world(setup.game), memo)

    def wish(self, word):
        """Come or go; the letters that say so."""
        former = self.state
        if word == "come" and former == "away":
            self.state, self.pieces = "coming", (None, 0, {})
            return [("word", self.place, "come")]
        if word == "go" and former in ("coming", "there"):
            self.state, self.line, self.pieces = "gone", None, None
            return [("word", self.place, "go")] if former == "there" else []
        return []

    def beat(self, word):
        """A beat; the letters that are sent."""
        if self.state == "coming":
            return [("word", self.place, "come")]
        if self.state != "there":
            return []
        line = self.line
        if line.shown - line.settled < self.setup.window:
            if self.seat is not None and naive_stay(self.setup, line.row, self.seat) != "out":
                line.press(word)
            line.shown += 1
        return [self.letter()]

    def letter(self):
        line = self.line
        words = tuple(line.own[tick] for tick in sorted(line.own))
        return ("keys", self.place, line.settled, words, naive_print(world_text(line.world(line.settled))))

    def hear(self, letter):
        if letter[0] == "rows" and self.state == "there":
            self.line.tell(letter[2], letter[3])
        if letter[0] == "piece" and self.state == "coming":
            tick, many, texts = self.pieces
            if tick is None or letter[2] > tick:
                tick, many, texts = letter[2], letter[4], {}
            if letter[2] == tick and letter[4] == many:
                texts.setdefault(letter[3], letter[5])
            self.pieces = (tick, many, texts)
            if len(texts) == many:
                head, *things = [part.split(" ") for part in "".join(texts[at] for at in range(many)).split(";")]
                world = World(*map(int, head), tuple((int(at), kind, tuple(map(int, numbers))) for at, kind, *numbers in things))
                self.state, self.line, self.pieces = "there", NaiveLine(self.setup, self.seat, world, self.memo), None


class NaiveMatch:
    """A standing as it is told, that changes in place."""

    def __init__(self, setup):
        self.setup, self.memo = setup, {}
        self.host = NaiveHost(setup, self.memo)
        self.machines = [NaiveMachine(setup, place, self.memo) for place in range(1, setup.seats + setup.lookers)]
        self.blocks, self.sure, self.letters = [], 0, []

    def act(self, act):
        word = act[0]
        if word == "tell":
            self.sure = len(self.blocks)
            self.host.tell()
            self.letters += self.host.mail()
        elif word == "fall":
            self.fall(act[1], act[2])
        elif word == "hand":
            letter = self.letters[act[1]]
            (self.host if letter[0] in ("keys", "word") else self.machines[letter[1] - 1]).hear(letter)
        elif word == "beat" and act[1] == 0:
            many = len(self.host.closed)
            self.host.beat(act[2])
            for tick, joint in list(enumerate(self.host.closed))[many:]:
                self.blocks.append(str(tick) + ":" + ",".join(map(str, joint)) + ";")
        elif word == "beat":
            self.letters += self.machines[act[1] - 1].beat(act[2])
        else:
            self.letters += self.machines[act[1] - 1].wish(word)

    def fall(self, many, signs):
        """Some blocks are gone, one can be torn; the row is read off those that are whole."""
        end = self.sure + many
        self.blocks = [block for block in self.blocks[:end] + [block[:signs] for block in self.blocks[end:][:1]] if block]
        self.sure = len(self.blocks)
        row = ()
        for block in self.blocks:
            if block.startswith(f"{len(row)}:") and block.endswith(";"):
                row += (tuple(map(int, block[:-1].partition(":")[2].split(","))),)
        world = first_world(self.setup.game)
        for joint in row:
            world = next_world(self.setup.game, world, joint)
        self.host.begin(row, world)

    def check(self, test, standing):
        """A standing is what this is."""
        test.assertEqual((standing.disk.blocks, standing.disk.sure), (tuple(self.blocks), self.sure))
        self.check_host(test, standing.host)
        test.assertEqual((standing.row, standing.bag.letters), (self.host.row, tuple(self.letters)))
        test.assertEqual([player.place for player in standing.players], [machine.place for machine in self.machines])
        for player, machine in zip(standing.players, self.machines):
            self.check_machine(test, player, machine)

    def check_host(self, test, host):
        test.assertEqual(told_of_host(host), self.host.told())
        test.assertEqual([orders_of(part) for part in told_of_host(host)], [orders_of(part) for part in self.host.told()])
        test.assertEqual(host.mail(), self.host.mail())
        check_line(test, host.timeline, self.host.line)

    def check_machine(self, test, player, machine):
        test.assertEqual((player.seat, player.state), (machine.seat, machine.state))
        test.assertEqual((player.timeline is None, player.gathering is None), (machine.line is None, machine.pieces is None))
        if machine.line:
            check_line(test, player.timeline, machine.line)
            test.assertEqual(player.letter(), machine.letter())
        if machine.pieces:
            test.assertEqual((player.gathering.tick, player.gathering.many, player.gathering.pieces), machine.pieces)
        is_waiting = machine.line is not None and machine.line.shown - machine.line.settled == self.setup.window
        test.assertIs(player.is_waiting, is_waiting)
