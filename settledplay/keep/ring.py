"""Rings: worlds of ticks that follow one another, most of them kept as differences."""

from settledplay.base.checks import need_within
from settledplay.errors import InvalidNumber, InvalidOperation
from settledplay.keep.parts import difference_of, world_behind
from settledplay.world.worlds import need_world

MOST_SPACING = 6


class Ring:
    """Kept worlds. Each world that is not kept whole is kept as its difference from the one ahead."""

    def __init__(self, world, *, spacing=2):
        need_world(world)
        need_within(spacing, 1, MOST_SPACING)
        self._fill(world.tick, spacing, (world,))

    def _fill(self, first, spacing, kept):
        """Set all that a ring has; only for one that nobody has seen yet."""
        self.first = first
        self.last = first + len(kept) - 1
        self.spacing = spacing
        self.kept = kept
        self.wholes = tuple([tick for tick in range(first, self.last + 1) if self._is_whole(tick)])

    def _is_whole(self, tick):
        """Whether the world of a tick is kept whole."""
        return tick == self.first or tick % self.spacing == 0

    def put(self, world):
        """The ring with the next world."""
        need_world(world)
        if world.tick != self.last + 1:
            raise InvalidOperation("the worlds of a ring have ticks that follow one another")
        part = world if self._is_whole(world.tick) else difference_of(self.world(self.last), world)
        return ring_of(self.first, self.spacing, (*self.kept, part))

    def world(self, tick):
        """The world of a tick."""
        whole = tick - self.work(tick)
        world = self.kept[whole - self.first]
        for at in range(whole + 1, tick + 1):
            world = world_behind(world, self.kept[at - self.first])
        return world

    def work(self, tick):
        """How many differences are applied for the world of a tick."""
        self._need_tick(tick)
        return tick - max(self.first, tick // self.spacing * self.spacing)

    def back_to(self, tick):
        """The ring without the worlds behind a tick."""
        self._need_tick(tick)
        return ring_of(self.first, self.spacing, self.kept[:tick - self.first + 1])

    def from_tick(self, tick):
        """The ring that begins at the nearest whole world up to a tick."""
        whole = tick - self.work(tick)
        return ring_of(whole, self.spacing, self.kept[whole - self.first:])

    def _need_tick(self, tick):
        """Refuse what is no tick of the ring."""
        if tick not in self:
            raise InvalidNumber(tick)

    def __contains__(self, value):
        return isinstance(value, int) and not isinstance(value, bool) and self.first <= value <= self.last

    def __len__(self):
        return len(self.kept)

    def __eq__(self, other):
        return isinstance(other, Ring) and parts_of(self) == parts_of(other)


def parts_of(ring):
    """All that a ring is told by; the differences are the least ones, so equal worlds have equal ones."""
    return (ring.first, ring.spacing, ring.kept)


def ring_of(first, spacing, kept):
    """A ring of what another ring keeps."""
    ring = Ring(kept[0], spacing=spacing)
    ring._fill(first, spacing, kept)
    return ring
