"""The machines of the other places: they show the game, say words, and hear what is settled."""

from settledplay.check.prints import world_print
from settledplay.errors import InvalidOperation, Refused
from settledplay.net.letters import need_letter
from settledplay.play.keys import need_setup, need_word, stay_behind
from settledplay.play.timeline import Timeline
from settledplay.rules.joints import is_row_of
from settledplay.seat.joining import Gathering
from settledplay.seat.places import need_machine_place, seat_of


class Player:
    """The machine of a place from 1 on."""

    def __init__(self, setup, place):
        need_setup(setup)
        need_machine_place(setup, place)
        self.setup = setup
        self.place = place
        self.seat = seat_of(setup, place)
        if place in setup.starters:
            self._fill("there", Timeline(setup, place), None)
        else:
            self._fill("away", None, None)

    def _fill(self, state, timeline, gathering):
        """Set all that changes with a machine; only for one that nobody has seen yet."""
        self.state = state
        self.timeline = timeline
        self.gathering = gathering
        self.is_waiting = timeline is not None and timeline.shown - timeline.settled == self.setup.window

    def come(self):
        """The machine that wishes to come."""
        if self.state != "away":
            return self
        return player_of(self, "coming", None, Gathering(self.setup, self.place))

    def go(self):
        """The machine that wishes to go."""
        if self.state not in ("coming", "there"):
            return self
        return player_of(self, "gone", None, None)

    def beat(self, word):
        """The machine behind a beat."""
        need_word(word)
        if self.timeline is None or self.is_waiting:
            return self
        line = self.timeline
        if self.seat is not None and stay_behind(self.setup, line.row, self.seat) != "out":
            line = line.pressed(word)
        return player_of(self, "there", line.advanced(), None)

    def heard(self, letter):
        """The machine behind a letter."""
        need_letter(letter)
        if letter[1] != self.place:
            return self
        if self.state == "there" and letter[0] == "rows":
            return player_of(self, "there", line_told(self.timeline, letter[2], letter[3]), None)
        if self.state == "coming" and letter[0] == "piece":
            gathering = self.gathering.heard(letter)
            line = line_begun(gathering)
            return player_of(self, "coming" if line is None else "there", line, gathering if line is None else None)
        return self

    def letter(self):
        """The letter at the end of a beat, None if none is sent."""
        if self.state == "coming":
            return ("word", self.place, "come")
        if self.state == "there":
            return letter_of_line(self.place, self.timeline)
        return None

    def __eq__(self, other):
        return isinstance(other, Player) and parts_of(self) == parts_of(other)


def parts_of(player):
    """All that a machine is told by."""
    return (player.setup, player.place, player.state, player.timeline, player.gathering)


def player_of(player, state, timeline, gathering):
    """The machine of the same place in another state."""
    after = Player(player.setup, player.place)
    after._fill(state, timeline, gathering)
    return after


def line_told(line, first, words):
    """The timeline that knows a stretch, as it was if the stretch can not be taken."""
    if not is_row_of(line.setup.game, words):
        return line
    try:
        return line.told(first, words)
    except Refused:
        return line


def line_begun(gathering):
    """The timeline that begins with the gathered world, None if the gathering tells none."""
    try:
        return gathering.begun()
    except Refused:
        return None


def letter_of_line(place, line):
    """The keys letter of a timeline."""
    return ("keys", place, line.settled, line.said, world_print(line.settled_world))


def keys_letter(setup, seat, timeline):
    """The keys letter of a timeline at a place."""
    need_setup(setup)
    need_machine_place(setup, seat)
    if not isinstance(timeline, Timeline) or timeline.setup != setup or timeline.seat != seat_of(setup, seat):
        raise InvalidOperation("the timeline is none of this setup and seat")
    return letter_of_line(seat, timeline)
