"""The host: it closes ticks, and tells what is sure."""

from settledplay.base.checks import need_within
from settledplay.errors import InvalidLetter
from settledplay.net.letters import HOST, goal_of, is_letter
from settledplay.play.keys import need_row_of_match, need_seat, need_setup, need_word, stay_behind
from settledplay.play.step import behind_words, plain
from settledplay.play.timeline import Timeline
from settledplay.seat.closing import closed_with, closed_without, is_filled_entry, is_silent_behind
from settledplay.seat.joining import letters_of_offer
from settledplay.seat.notes import no_notes
from settledplay.seat.places import is_machine_place, places_of


class Host:
    """The machine that closes ticks; the seat 0 sits there."""

    def __init__(self, setup):
        need_setup(setup)
        self.setup = setup
        self._fill((), (), Timeline(setup, 0), no_notes(), 0)

    @classmethod
    def of_row(cls, setup, row):
        """The host behind a fall, made of the row that it finds."""
        need_setup(setup)
        need_row_of_match(setup, row)
        host = cls(setup)
        host._begin(row, plain(setup.game, row))
        return host

    def _begin(self, row, world):
        """Begin at the world behind a row that is closed and settled; only for a host that nobody has seen yet."""
        self._fill(row, row, Timeline(self.setup, 0, world), no_notes(), 0)

    def _fill(self, closed, row, timeline, notes, idle):
        """Set all that changes with a host; only for one that nobody has seen yet."""
        self.closed = closed
        self.row = row
        self.timeline = timeline
        self.notes = notes
        self.idle = idle
        self.goers = notes.goers

    @property
    def waiting(self):
        """The words that wait, by seats and ticks, in a dict that the caller may keep."""
        words = self.notes.words
        return {seat: {tick: words[seat][tick] for tick in sorted(words[seat])} for seat in sorted(words)}

    @property
    def marks(self):
        """How many settled ticks each place that was heard is known to have, in a dict that the caller may keep."""
        known = self.notes.known
        return {place: known[place] for place in sorted(known)}

    @property
    def offers(self):
        """The offered worlds by their places, in a dict that the caller may keep."""
        worlds = self.notes.worlds
        return {place: worlds[place] for place in sorted(worlds)}

    def beat(self, word):
        """The host behind a beat."""
        need_word(word)
        line = self.timeline
        if line.shown - line.settled < self.setup.window:
            line = line.pressed(word).advanced()
        closed = closed_without(self.setup, self.closed, self.notes, line)
        idle = self.idle + 1
        if closed == self.closed and idle >= self.setup.patience:
            closed = closed_with(self.setup, closed, self.notes, line)
        if closed != self.closed:
            idle = 0
        return host_of(self, closed, self.row, line, self.notes.behind(self.setup, closed), idle)

    def made_sure(self):
        """The host that knows its closed row to be sure."""
        line = self.timeline.told(len(self.row), self.closed[len(self.row):])
        return host_of(self, self.closed, self.closed, line, self.notes, self.idle)

    def heard(self, letter):
        """The host behind a letter."""
        need_letter_to_host(self.setup, letter)
        notes = notes_of_keys(self, letter) if letter[0] == "keys" else notes_of_wish(self, letter)
        return host_of(self, self.closed, self.row, self.timeline, notes, self.idle)

    def mail(self):
        """The letters to all who are to hear something."""
        letters = []
        for place in range(1, places_of(self.setup)):
            if place in self.notes.worlds:
                letters.extend(list(letters_of_offer(place, self.notes.worlds[place])))
            elif place in self.notes.known or is_in(self, place):
                letters.append(rows_letter(self, place))
        return tuple(letters)

    def __eq__(self, other):
        return isinstance(other, Host) and parts_of(self) == parts_of(other)


def parts_of(host):
    """All that a host is told by."""
    notes = host.notes
    heard = (notes.words, notes.known, notes.worlds, notes.goers)
    return (host.setup, host.closed, host.row, host.timeline, heard, host.idle)


def host_of(host, closed, row, timeline, notes, idle):
    """A host with the same setup, and sure parts."""
    after = Host(host.setup)
    after._fill(closed, row, timeline, notes, idle)
    return after


def host_behind_fall(host, row):
    """The host that is made of a row with which the settled row of a former host begins."""
    # The former world spares the steps ahead of it, and is the same, as it is the plain one.
    world = behind_words(host.setup.game, host.timeline.settled_world, row[len(host.row):])
    after = Host(host.setup)
    after._begin(row, world)
    return after


def is_in(host, place):
    """Whether a place is that of a seat that is in behind the closed row."""
    return place < host.setup.seats and stay_behind(host.setup, host.closed, place) == "in"


def need_letter_to_host(setup, value):
    """Refuse what is no letter to the host, of a place of the setup from 1 on."""
    if not is_letter(value) or goal_of(value) != HOST or not is_machine_place(setup, value[1]):
        raise InvalidLetter("the host hears keys letters and word letters of places of the setup")


def notes_of_keys(host, letter):
    """The notes behind a keys letter."""
    _, place, first, words, _ = letter
    notes = host.notes.with_mark(place, min(first, len(host.row)))
    if place >= host.setup.seats or stay_behind(host.setup, host.closed, place) == "out":
        return notes
    return notes.with_words(place, first, words, len(host.closed)).behind(host.setup, host.closed)


def notes_of_wish(host, letter):
    """The notes behind a word letter."""
    _, place, wish = letter
    if wish == "come" and not is_in(host, place):
        return host.notes.with_offer(place, host.timeline.settled_world)
    if wish == "go" and is_in(host, place):
        return host.notes.with_goer(place)
    return host.notes


def rows_letter(host, place):
    """The letter with what a place is not known to have of the settled row, as much as a letter takes."""
    mark = host.notes.known.get(place, 0)
    most = 2 * host.setup.window + host.setup.delay
    return ("rows", place, mark, host.row[mark:mark + most])


def is_filled(setup, row, tick, seat):
    """Whether the entry of a seat at a tick was filled in."""
    need_setup(setup)
    need_row_of_match(setup, row)
    need_within(tick, 0, len(row) - 1)
    need_seat(setup, seat)
    return is_filled_entry(row[tick][seat])


def is_silent(setup, row, seat):
    """Whether a seat would be silent at the next tick behind a row."""
    need_setup(setup)
    need_row_of_match(setup, row)
    need_seat(setup, seat)
    return is_silent_behind(setup, row, seat)
