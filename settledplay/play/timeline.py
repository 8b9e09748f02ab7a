"""Timelines: what a machine knows of a match, and what it shows."""

from settledplay.base.checks import is_whole, is_within, need_whole
from settledplay.errors import InvalidNumber, InvalidOperation, InvalidRow, InvalidWorld, Refused
from settledplay.keep.ring import Ring
from settledplay.play.again import done_again
from settledplay.play.keys import (
    heard_of,
    need_own,
    need_row_of_match,
    need_seat_or_looker,
    need_setup,
    need_word,
    stay_behind,
    used_at,
    used_behind,
)
from settledplay.play.step import effects_of_records, stepped
from settledplay.rules.joints import is_row_of
from settledplay.world.worlds import does_belong, first_world

MOST_SHOWN = 400


class Course:
    """Worlds of ticks that follow one another, and the records of the steps between them."""

    def __init__(self, ring, rows):
        self.ring = ring
        self.rows = rows

    def with_step(self, world, records):
        """The course with a further step."""
        return Course(self.ring.put(world), (*self.rows, records))

    def records(self, tick):
        """The records of the step of a tick."""
        return self.rows[tick - self.ring.first]

    def back_to(self, tick):
        """The course without the worlds behind a tick."""
        return Course(self.ring.back_to(tick), self.rows[:tick - self.ring.first])

    def from_tick(self, tick):
        """The course without worlds that no later one needs."""
        ring = self.ring.from_tick(tick)
        return Course(ring, self.rows[ring.first - self.ring.first:])


class Timeline:
    """What a machine knows of a match, and what it shows."""

    def __init__(self, setup, seat, world=None):
        need_setup(setup)
        need_seat_or_looker(setup, seat)
        if world is not None and not does_belong(setup.game, world):
            raise InvalidWorld("a timeline begins with a world of the game")
        self.setup = setup
        self.seat = seat
        self.start = first_world(setup.game) if world is None else world
        self.base = self.start.tick
        self._fill((), (), self.base, Course(Ring(self.start, spacing=setup.spacing), ()), 0)

    def _fill(self, row, said, shown, course, reruns):
        """Set all that can be told to a timeline; only for one that nobody has seen yet."""
        self.row = row
        self.settled = self.base + len(row)
        # The own words stand without a gap from the settled tick on, as a press fills each one up to its end.
        self.said = said
        self.shown = shown
        self.course = course
        self.reruns = reruns
        self.settled_world = course.ring.world(self.settled)
        self.shown_world = course.ring.world(shown)

    @property
    def own(self):
        """The own words by their ticks, in a dict that the caller may keep."""
        return {self.settled + at: word for at, word in enumerate(self.said)}

    def used(self, tick):
        """The words that are used at a tick."""
        if not is_whole(tick) or tick < self.base:
            raise InvalidNumber(tick)
        return used_of(self, self.row, self.said, tick)

    def world_at(self, tick):
        """The world of a tick."""
        if tick not in self.course.ring or tick < min(self.settled, self.shown):
            raise InvalidNumber(tick)
        return self.course.ring.world(tick)

    def effects_at(self, tick):
        """The effects of the step of a tick as it ran last."""
        self.world_at(tick)
        if tick == self.course.ring.last:
            raise InvalidNumber(tick)
        return effects_of_records(self.course.records(tick))

    def pressed(self, word):
        """The timeline with an own word for each tick that has none, as far as a press goes."""
        need_word(word)
        if self.seat is None:
            raise InvalidOperation("a looker-on has no own words")
        last = self.shown + self.setup.delay
        if stay_behind(self.setup, self.row, self.seat) == "ahead":
            last = self.settled + self.setup.window + self.setup.delay - 1
        lacking = max(0, last + 1 - self.settled - len(self.said))
        return line_behind(self, self.row, self.said + (word,) * lacking, self.shown)

    def advanced(self):
        """The timeline that shows the next tick."""
        if self.shown == self.settled + self.setup.window:
            raise Refused(("full",))
        return line_behind(self, self.row, self.said, self.shown + 1)

    def told(self, first, words):
        """The timeline that knows a stretch."""
        need_whole(first)
        if not is_row_of(self.setup.game, words):
            raise InvalidRow("a stretch is a tuple of joint words of the game")
        if first > self.settled:
            raise Refused(("hole", self.settled))
        for tick, joint in enumerate(words[:self.settled - first], start=first):
            if tick >= self.base and joint != self.row[tick - self.base]:
                raise Refused(("unlike", tick))
        more = words[self.settled - first:]
        shown = max(self.shown, self.settled + len(more) - self.setup.delay)
        return line_behind(self, self.row + more, self.said[len(more):], shown)

    def __eq__(self, other):
        return isinstance(other, Timeline) and parts_of(self) == parts_of(other)

    def __str__(self):
        return f"{name_of(self.seat)}: {self.settled} settled, {self.shown} shown"


def parts_of(line):
    """All that tells what a timeline is, whatever was run again for it."""
    return (line.setup, line.seat, line.start, line.row, line.said, line.shown)


def name_of(seat):
    """What a seat is called."""
    return "looker-on" if seat is None else f"seat {seat}"


def used_of(line, row, said, tick):
    """The words used at a tick if the timeline had this row, and these own words behind it."""
    at = tick - line.base
    if at < len(row):
        return heard_of(row[at])
    ahead = at - len(row)
    return used_behind(line.setup, row, line.seat, said[ahead] if ahead < len(said) else 0)


def is_changed(line, row, said, tick):
    """Whether other words would be used at a tick if the timeline had this row and these own words."""
    return used_of(line, row, said, tick) != used_of(line, line.row, line.said, tick)


def line_behind(line, row, said, shown):
    """The timeline with another row, other own words, another shown tick, all of its steps done."""
    course, many = run_again(line, row, said)
    settled = line.base + len(row)
    now = course.ring.world(course.ring.last)
    for tick in range(now.tick, max(settled, shown)):
        now, records, _ = stepped(line.setup.game, now, used_of(line, row, said, tick))
        course = course.with_step(now, records)
    after = Timeline(line.setup, line.seat, line.start)
    after._fill(row, said, shown, course.from_tick(min(settled, shown)), line.reruns + many)
    return after


def run_again(line, row, said):
    """The course of a timeline if it had this row and these own words, and how many steps are run again for it."""
    former = line.course
    changes = [tick for tick in range(line.settled, line.shown) if is_changed(line, row, said, tick)]
    if len(changes) == 0:
        return (former, 0)
    course = former.back_to(changes[0])
    now = former.ring.world(changes[0])
    many = 0
    for tick in range(changes[0], line.shown):
        records = former.records(tick)
        if tick not in changes and now == former.ring.world(tick):
            now = former.ring.world(tick + 1)
        else:
            now, records, _, _ = done_again(line.setup.game, records, now, used_of(line, row, said, tick))
            many = many + 1
        course = course.with_step(now, records)
    return (course, many)


def viewed(setup, seat, row, own, shown):
    """The world that a seat shows when it knows a row and has own words, by plain steps from the first one."""
    need_setup(setup)
    need_seat_or_looker(setup, seat)
    need_row_of_match(setup, row)
    need_own(own)
    if not is_within(shown, 0, MOST_SHOWN):
        raise InvalidNumber(shown)
    world = first_world(setup.game)
    for tick in range(shown):
        world = stepped(setup.game, world, used_at(setup, row, seat, own, tick))[0]
    return world
