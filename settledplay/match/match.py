"""Matches: a standing, and the acts that change it."""

from settledplay.base.checks import is_whole, is_within
from settledplay.disk.book import Disk, fallen_at, next_block, read_book, with_tick
from settledplay.errors import InvalidAct, InvalidNumber, InvalidStanding, Refused, TooMany
from settledplay.match.faults import fault_of
from settledplay.net.bag import Bag
from settledplay.net.letters import HOST, goal_of
from settledplay.play.keys import is_word, need_setup
from settledplay.seat.host import Host, host_behind_fall
from settledplay.seat.places import is_machine_place, places_of
from settledplay.seat.player import Player

MAX_ACTS = 600

MOST_LOST = 1000


def is_beat(setup, value):
    """Whether an act that begins like a beat is one."""
    return len(value) == 3 and is_within(value[1], 0, places_of(setup) - 1) and is_word(value[2])


def is_tell(setup, value):
    """Whether an act that begins like a tell is one."""
    return len(value) == 1


def is_hand(setup, value):
    """Whether an act that begins like the handing of a letter is one."""
    return len(value) == 2 and is_whole(value[1])


def is_fall(setup, value):
    """Whether an act that begins like a fall is one."""
    return len(value) == 3 and is_within(value[1], 0, MOST_LOST) and is_within(value[2], 0, MOST_LOST)


def is_wish(setup, value):
    """Whether an act that begins like a wish to come or to go is one."""
    return len(value) == 2 and is_machine_place(setup, value[1])


FORMS = {
    "beat": is_beat,
    "tell": is_tell,
    "hand": is_hand,
    "fall": is_fall,
    "come": is_wish,
    "go": is_wish,
}


def is_act_of(setup, value):
    """Whether the value is an act of a sure setup."""
    if not isinstance(value, tuple) or len(value) == 0 or not isinstance(value[0], str) or value[0] not in FORMS:
        return False
    action = FORMS[value[0]]
    return action(setup, value)


def is_act(setup, value):
    """Whether the value is an act of a setup."""
    need_setup(setup)
    return is_act_of(setup, value)


def behind_beat(standing, act):
    """The standing behind a beat."""
    _, place, word = act
    if place > 0:
        return with_player(standing, place, standing.players[place - 1].beat(word), True)
    host = standing.host.beat(word)
    disk = standing.disk
    for tick in range(len(standing.host.closed), len(host.closed)):
        disk = with_tick(disk, tick, host.closed[tick])
    return standing_of(standing, host, disk, standing.players, standing.bag)


def behind_tell(standing, act):
    """The standing behind a tell."""
    host = standing.host.made_sure()
    return standing_of(standing, host, standing.disk.made_sure(), standing.players, standing.bag.sent_all(host.mail()))


def behind_hand(standing, act):
    """The standing in which a letter was heard by its goal."""
    letter = standing.bag.letters[act[1]]
    place = goal_of(letter)
    if place != HOST:
        return with_player(standing, place, standing.players[place - 1].heard(letter), False)
    return standing_of(standing, standing.host.heard(letter), standing.disk, standing.players, standing.bag)


def behind_fall(standing, act):
    """The standing behind a fall."""
    _, many, signs = act
    disk = standing.disk
    end = min(disk.sure + many, len(disk.blocks))
    disk = fallen_at(disk, end, min(signs, len(next_block(disk, end))))
    host = host_behind_fall(standing.host, read_book(standing.setup, disk))
    return standing_of(standing, host, disk, standing.players, standing.bag)


def behind_come(standing, act):
    """The standing in which a machine came, if it could."""
    former = standing.players[act[1] - 1]
    return with_player(standing, act[1], former.come(), former.state == "away")


def behind_go(standing, act):
    """The standing in which a machine went, if it could."""
    former = standing.players[act[1] - 1]
    after = with_player(standing, act[1], former.go(), False)
    if former.state != "there":
        return after
    bag = standing.bag.sent(("word", act[1], "go"))
    return standing_of(standing, after.host, after.disk, after.players, bag)


ACTS = {
    "beat": behind_beat,
    "tell": behind_tell,
    "hand": behind_hand,
    "fall": behind_fall,
    "come": behind_come,
    "go": behind_go,
}


class Standing:
    """What acts have made of a setup."""

    def __init__(self, setup):
        need_setup(setup)
        players = [Player(setup, place) for place in range(1, places_of(setup))]
        self._fill(setup, Host(setup), Disk(), tuple(players), Bag())

    def _fill(self, setup, host, disk, players, bag):
        """Set all that a standing has; only for one that nobody has seen yet."""
        self.setup = setup
        self.host = host
        self.disk = disk
        self.players = players
        self.bag = bag
        self.row = host.row

    def line(self, place):
        """The timeline of a place, None without one."""
        if not is_within(place, 0, len(self.players)):
            raise InvalidNumber(place)
        return self.host.timeline if place == 0 else self.players[place - 1].timeline

    def view(self, place):
        """The world that a place shows."""
        return self._sure_line(place).shown_world

    def ground(self, place):
        """The settled world of a place."""
        return self._sure_line(place).settled_world

    def _sure_line(self, place):
        """The timeline of a place that has one."""
        line = self.line(place)
        if line is None:
            raise Refused(("away",))
        return line

    def after(self, act):
        """The standing behind an act."""
        if not is_act_of(self.setup, act) or not is_letter_there(self, act):
            raise InvalidAct("the standing takes no such act")
        action = ACTS[act[0]]
        return action(self, act)

    def __eq__(self, other):
        return isinstance(other, Standing) and parts_of(self) == parts_of(other)

    def __str__(self):
        return f"standing of {len(self.players) + 1} machines: {len(self.row)} settled, {len(self.bag)} letters"


def parts_of(standing):
    """All that a standing is told by."""
    return (standing.setup, standing.host, standing.disk, standing.players, standing.bag)


def standing_of(standing, host, disk, players, bag):
    """A standing of the same setup, and of sure parts."""
    after = Standing(standing.setup)
    after._fill(standing.setup, host, disk, players, bag)
    return after


def with_player(standing, place, player, does_send):
    """The standing with another machine at a place, which then sends its letter or does not."""
    players = (*standing.players[:place - 1], player, *standing.players[place:])
    letter = player.letter() if does_send else None
    bag = standing.bag if letter is None else standing.bag.sent(letter)
    return standing_of(standing, standing.host, standing.disk, players, bag)


def is_letter_there(standing, act):
    """Whether the letter that an act hands over, if it does, was sent."""
    return act[0] != "hand" or act[1] < len(standing.bag)


def need_standing(value):
    """Refuse what is no standing."""
    if not isinstance(value, Standing):
        raise InvalidStanding("a standing is an object of its class")


def need_schedule(setup, value):
    """Refuse what is no setup, and then what is no schedule of it, whichever letters it hands over."""
    need_setup(setup)
    if not isinstance(value, tuple) or not all([is_act_of(setup, act) for act in value]):
        raise InvalidAct("a schedule is a tuple of acts")
    if len(value) > MAX_ACTS:
        raise TooMany(MAX_ACTS)


def run(setup, schedule):
    """The standing behind a schedule."""
    need_schedule(setup, schedule)
    standing = Standing(setup)
    for act in schedule:
        standing = standing.after(act)
    return standing


def each_standing(setup, schedule):
    """The first standing, and that behind each act."""
    need_schedule(setup, schedule)
    standing = Standing(setup)
    yield standing
    for act in schedule:
        standing = standing.after(act)
        yield standing


def first_fault(standing):
    """The first main statement that is not true of a standing, None if all are."""
    need_standing(standing)
    return fault_of(standing)


def is_sound(standing):
    """Whether all main statements are true of a standing."""
    need_standing(standing)
    return fault_of(standing) is None
