"""A run on its way: what it reads of the world that it began in, and what it does."""

from settledplay.arena.boxes import do_meet, moved
from settledplay.base.luck import draw
from settledplay.base.numbers import OPERATIONS, nearest
from settledplay.rules.forms import MAX_THINGS
from settledplay.rules.joints import heard_word

MOVING = ("x", "y", "dx", "dy")


def place_value(game, world, joint, place):
    """The value of a place that has its form."""
    word = place[0]
    if word == "field":
        return field_value(game, world, place[1], place[2])
    if word == "kind":
        return world.kind_of(place[1]) if place[1] in world else None
    if word == "ids":
        return world.ids(place[1]) if place[1] in game.table else None
    if word == "many":
        return len(world)
    if word == "next":
        return world.next_id
    if word == "key":
        return heard_word(joint, place[1])
    return world.luck if word == "luck" else world.tick


def field_value(game, world, thing, field):
    """The number of a field of a thing, None if one of both is not there."""
    if thing not in world:
        return None
    at = game.table[world.kind_of(thing)].places.get(field)
    return None if at is None else world.numbers(thing)[at]


class Running:
    """What a run has read and done since it began. The world itself stays as it was at the begin."""

    def __init__(self, game, world, joint, entry, thing):
        self.game = game
        self.world = world
        self.joint = joint
        self.entry = entry
        self.thing = thing
        self.known = {}
        self.draws = 0
        self.reads = {}
        self.sets = {}
        self.lives = {}
        self.drops = {}
        self.makes = 0
        self.effects = []

    def read(self, place):
        """The value of a place at the begin; it counts as read from now on."""
        if place not in self.reads:
            self.reads[place] = place_value(self.game, self.world, self.joint, place)
        return self.reads[place]

    def has_thing(self, thing):
        """Whether a thing is there now."""
        return thing in self.lives or (thing in self.world and thing not in self.drops)

    def field(self, thing, field):
        """The number of a field of a thing that is there, None if it has no such field."""
        if thing in self.lives:
            kind, numbers = self.lives[thing]
            return numbers[self.game.table[kind].places[field]]
        if (thing, field) in self.sets:
            return self.sets[(thing, field)]
        return self.read(("field", thing, field))

    def put(self, thing, field, number):
        """Set a field, unless the thing was dropped."""
        if thing in self.lives:
            kind, numbers = self.lives[thing]
            numbers[self.game.table[kind].places[field]] = number
        elif self.has_thing(thing):
            self.sets[(thing, field)] = number

    def ids(self, kind):
        """The ids of the things of a kind that are there now, ascending: what is made has the greatest ones."""
        kept = [thing for thing in self.read(("ids", kind)) if thing not in self.drops]
        return kept + [thing for thing, (other, _) in self.lives.items() if other == kind]

    def make(self, kind, numbers):
        """Make a thing, unless there are as many as can be."""
        if self.read(("many",)) - len(self.drops) + len(self.lives) >= MAX_THINGS:
            return
        self.lives[self.read(("next",)) + self.makes] = (kind, numbers)
        self.makes = self.makes + 1

    def drop(self, thing):
        """Take a thing away, if it is there."""
        if thing in self.lives:
            del self.lives[thing]
        elif self.has_thing(thing):
            self.drops[thing] = True

    def record(self):
        """The record of what was read and done."""
        sets = [(thing, field, number) for (thing, field), number in self.sets.items() if thing not in self.drops]
        lives = [(thing, kind, tuple(numbers)) for thing, (kind, numbers) in self.lives.items()]
        drops = [(thing, self.world.kind_of(thing)) for thing in self.drops]
        return (
            self.entry,
            self.thing,
            tuple([(place, self.reads[place]) for place in sorted(list(self.reads))]),
            tuple(sorted(sets)),
            tuple(lives),
            tuple(sorted(drops)),
            self.makes,
            tuple(self.effects),
        )


def worth(run, part):
    """The number that an expression makes."""
    if isinstance(part, int):
        return part
    word = part[0]
    if word in OPERATIONS:
        action = OPERATIONS[word]
        return action(worth(run, part[1]), worth(run, part[2]))
    action = WORTHS[word]
    return action(run, part)


def worth_own(run, part):
    """A field of the own thing, 0 if it was dropped."""
    return run.field(run.thing, part[1]) if run.has_thing(run.thing) else 0


def worth_of(run, part):
    """A field of another thing, 0 if it was dropped."""
    thing = run.known[part[1]]
    return run.field(thing, part[2]) if run.has_thing(thing) else 0


def worth_var(run, part):
    """What `let` made known."""
    return run.known[part[1]]


def worth_key(run, part):
    """A bit of the key of the seat that the own thing tells, 0 without one."""
    if not run.has_thing(run.thing):
        return 0
    seat = run.field(run.thing, "seat")
    word = None if seat is None else run.read(("key", seat))
    return 0 if word is None else (word >> part[1]) & 1


def worth_tick(run, _):
    """The tick of the world, clamped as it has no bound of its own."""
    return nearest(run.read(("tick",)))


def worth_draw(run, part):
    """The next draw of this run."""
    run.draws = run.draws + 1
    return draw(run.read(("luck",)), run.entry, run.thing, run.draws - 1, part[1])


def worth_id(run, _):
    """The own id, clamped as it has no bound of its own."""
    return nearest(run.thing)


def worth_not(run, part):
    """1 for 0."""
    return 1 if worth(run, part[1]) == 0 else 0


def worth_if(run, part):
    """One of two parts; the other one is not worked."""
    return worth(run, part[2] if worth(run, part[1]) != 0 else part[3])


def worth_count(run, part):
    """For how many things of a kind something is not 0."""
    many = 0
    for thing in run.ids(part[1]):
        run.known[part[2]] = thing
        if worth(run, part[3]) != 0:
            many = many + 1
    return many


def worth_meets(run, part):
    """1 if the own box, grown, meets that of another thing."""
    grown = worth(run, part[2])
    other = run.known[part[1]]
    if not run.has_thing(run.thing) or not run.has_thing(other):
        return 0
    return 1 if do_meet(box_now(run, run.thing), box_now(run, other), grown) else 0


def box_now(run, thing):
    """The box of a thing with a body, where it stands now."""
    kind = run.lives[thing][0] if thing in run.lives else run.world.kind_of(thing)
    width, height, _ = run.game.table[kind].body
    return (run.field(thing, "x"), run.field(thing, "y"), width, height)


WORTHS = {
    "own": worth_own,
    "of": worth_of,
    "var": worth_var,
    "key": worth_key,
    "tick": worth_tick,
    "draw": worth_draw,
    "id": worth_id,
    "not": worth_not,
    "if": worth_if,
    "count": worth_count,
    "meets": worth_meets,
}


def do_row(run, row):
    """Do statements in turn."""
    for piece in row:
        action = DEEDS[piece[0]]
        action(run, piece)


def do_set(run, piece):
    """Set a field of the own thing."""
    run.put(run.thing, piece[1], worth(run, piece[2]))


def do_give(run, piece):
    """Set a field of another thing."""
    run.put(run.known[piece[1]], piece[2], worth(run, piece[3]))


def do_let(run, piece):
    """Make a number known."""
    run.known[piece[1]] = worth(run, piece[2])


def do_when(run, piece):
    """Do one of two rows."""
    do_row(run, piece[2] if worth(run, piece[1]) != 0 else piece[3])


def do_each(run, piece):
    """Do a row for each thing of a kind that is still there when its turn comes."""
    for thing in run.ids(piece[1]):
        if run.has_thing(thing):
            run.known[piece[2]] = thing
            do_row(run, piece[3])


def do_first(run, piece):
    """Do a row for the first thing for which something is not 0, another row for none."""
    for thing in run.ids(piece[1]):
        run.known[piece[2]] = thing
        if worth(run, piece[3]) != 0:
            do_row(run, piece[4])
            return
    do_row(run, piece[5])


def do_make(run, piece):
    """Make a thing; its other fields have the first numbers of its kind."""
    kind = run.game.table[piece[1]]
    numbers = list(kind.firsts)
    for field, part in piece[2]:
        numbers[kind.places[field]] = worth(run, part)
    run.make(kind.name, numbers)


def do_drop(run, piece):
    """Take the own thing or another one away."""
    run.drop(run.thing if piece[1] == "" else run.known[piece[1]])


def do_tell(run, piece):
    """Tell an effect."""
    run.effects.append((piece[1], worth(run, piece[2])))


DEEDS = {
    "set": do_set,
    "give": do_give,
    "let": do_let,
    "when": do_when,
    "each": do_each,
    "first": do_first,
    "make": do_make,
    "drop": do_drop,
    "tell": do_tell,
}


def do_move(run):
    """Move the own thing among all other solid ones."""
    body = run.game.table[run.read(("kind", run.thing))].body
    x, y, dx, dy = [run.field(run.thing, field) for field in MOVING]
    around = tuple([box for thing, box in solid_boxes(run) if thing != run.thing])
    box = moved(run.game.arena, (x, y, body[0], body[1]), around, dx, dy)
    run.put(run.thing, "x", box[0])
    run.put(run.thing, "y", box[1])


def solid_boxes(run):
    """The pairs of the ids and the boxes of all solid things; all of them are read, also the own one."""
    found = []
    for kind in run.game.names:
        if run.game.table[kind].is_solid():
            found.extend([(thing, box_now(run, thing)) for thing in run.ids(kind)])
    return found


def record_of(game, world, joint, entry, thing):
    """The record of a run that can be."""
    run = Running(game, world, joint, entry, thing)
    told = game.entries[entry]
    if told[0] == "move":
        do_move(run)
    else:
        do_row(run, told[2])
    return run.record()
