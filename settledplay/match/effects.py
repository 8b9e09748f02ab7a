"""Effects that the outside has: each one once, and which are taken back."""

from settledplay.base.checks import is_whole, need_whole, need_within
from settledplay.errors import InvalidOperation, Refused
from settledplay.play.step import stepped
from settledplay.play.timeline import Timeline
from settledplay.rules.forms import need_game
from settledplay.rules.joints import need_row
from settledplay.rules.records import are_effects
from settledplay.world.worlds import first_world


def numbered(tick, pairs):
    """The effects of a tick, each with its number ahead."""
    return tuple([(tick, place, code, number) for place, (code, number) in enumerate(pairs)])


def effects_of(game, row):
    """The lot of the effects of a row."""
    lot = ()
    for tick, pairs in tellings(game, row):
        lot = lot + numbered(tick, pairs)
    return lot


def tellings(game, row, *, first=0):
    """What is told of each tick of a row from the first one on."""
    need_game(game)
    need_row(game, row)
    need_within(first, 0, len(row))
    world = first_world(game)
    for tick, joint in enumerate(row):
        world, _, pairs = stepped(game, world, joint)
        if tick >= first:
            yield (tick, pairs)


def shown_effects(timeline):
    """The lot of the effects of what a timeline shows, from its base on."""
    if not isinstance(timeline, Timeline):
        raise InvalidOperation("shown effects are those of a timeline")
    lot = ()
    world = timeline.start
    for tick in range(timeline.base, timeline.shown):
        world, _, pairs = stepped(timeline.setup.game, world, timeline.used(tick))
        lot = lot + numbered(tick, pairs)
    return lot


def is_effect(value):
    """Whether the value is a numbered effect."""
    if not isinstance(value, tuple) or len(value) != 4:
        return False
    return is_whole(value[0]) and is_whole(value[1]) and are_effects((value[2:],))


def is_lot(value):
    """Whether the value is a lot."""
    if not isinstance(value, tuple) or not all([is_effect(effect) for effect in value]):
        return False
    return all([one[:2] < other[:2] for one, other in zip(value, value[1:])])


def need_lot(value):
    """Refuse what is no lot."""
    if not is_lot(value):
        raise InvalidOperation("a lot is a tuple of effects, their numbers ascending")


def effect_change(one, other):
    """What is taken back and what is told from a lot to another one."""
    need_lot(one)
    need_lot(other)
    return (without(one, other), without(other, one))


def without(lot, other):
    """The effects of a lot that another one does not have."""
    there = set(other)
    return tuple([effect for effect in lot if effect not in there])


def changed(lot, back, told):
    """What comes of a lot by taking back and telling."""
    for value in (lot, back, told):
        need_lot(value)
    lacking = without(back, lot)
    if len(lacking) > 0:
        raise Refused(("back", lacking[0]))
    kept = without(lot, back)
    numbers = {effect[:2] for effect in kept}
    for effect in told:
        if effect[:2] in numbers:
            raise Refused(("told", effect))
    return tuple(sorted(kept + told))


class Ear:
    """The outside: it takes each telling once, in the order of ticks."""

    def __init__(self):
        self._fill(0, ())

    def _fill(self, ticks, lot):
        """Set all that an ear has; only for one that nobody has seen yet."""
        self.ticks = ticks
        self.lot = lot

    def heard(self, tick, pairs):
        """The ear behind a telling."""
        need_whole(tick)
        if not are_effects(pairs):
            raise InvalidOperation("a telling has a tuple of pairs of a code and a number")
        if tick > self.ticks:
            raise Refused(("hole", self.ticks))
        if tick < self.ticks:
            return self
        after = Ear()
        after._fill(tick + 1, self.lot + numbered(tick, pairs))
        return after

    def __len__(self):
        return len(self.lot)

    def __eq__(self, other):
        return isinstance(other, Ear) and (self.ticks, self.lot) == (other.ticks, other.lot)

    def __str__(self):
        return f"ear of {self.ticks} ticks, {len(self.lot)} effects"
