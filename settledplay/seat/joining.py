"""Coming late: a world that is told in pieces, and how they are put together again."""

from settledplay.errors import InvalidLetter, InvalidWorld, Refused
from settledplay.net.letters import is_letter
from settledplay.play.keys import need_setup
from settledplay.play.timeline import Timeline
from settledplay.seat.places import need_machine_place, seat_of
from settledplay.world.worlds import does_belong, need_world_of, read_world, world_text

PIECE = 200

MOST_LETTERS = 400


def pieces_of(game, world):
    """The pieces of the text of a world."""
    need_world_of(game, world)
    return cut_text(world_text(world))


def cut_text(text):
    """The pieces of a text."""
    return tuple([text[begin:begin + PIECE] for begin in range(0, len(text), PIECE)])


def offer(setup, place, world):
    """The letters of an offer."""
    need_setup(setup)
    need_machine_place(setup, place)
    need_world_of(setup.game, world)
    return letters_of_offer(place, world)


def letters_of_offer(place, world):
    """The letters of an offer of a sure world to a sure place."""
    pieces = cut_text(world_text(world))
    return tuple([("piece", place, world.tick, at, len(pieces), text) for at, text in enumerate(pieces)])


class Gathering:
    """The pieces that a place has of a world."""

    def __init__(self, setup, place):
        need_setup(setup)
        need_machine_place(setup, place)
        self.setup = setup
        self.place = place
        self._fill(None, 0, {})

    def _fill(self, tick, many, texts):
        """Set what has been heard; only for one that nobody has seen yet."""
        self.tick = tick
        self.many = many
        self.texts = texts
        self.lacks = tuple([at for at in range(many) if at not in texts])

    @property
    def pieces(self):
        """The pieces by their indices, in a dict that the caller may keep."""
        return {at: self.texts[at] for at in sorted(self.texts)}

    def heard(self, letter):
        """The gathering behind a letter."""
        need_piece_letter(letter)
        _, place, tick, at, many, text = letter
        if place != self.place or not self._is_new(tick, at, many):
            return self
        texts = dict(self.texts) if tick == self.tick else {}
        texts[at] = text
        after = Gathering(self.setup, self.place)
        after._fill(tick, many, texts)
        return after

    def _is_new(self, tick, at, many):
        """Whether a piece of a world can be put to the others, or begins anew."""
        if self.tick is None or tick > self.tick:
            return True
        return tick == self.tick and many == self.many and at not in self.texts

    def is_whole(self):
        """Whether there is a piece for each index."""
        return self.many > 0 and len(self.lacks) == 0

    def world(self):
        """The world that the text tells."""
        if not self.is_whole():
            raise Refused(("pieces", self.lacks))
        world = told_world("".join([self.texts[at] for at in range(self.many)]))
        if world is None or world.tick != self.tick or not does_belong(self.setup.game, world):
            raise Refused(("text",))
        return world

    def begun(self):
        """The timeline that begins at the world."""
        return Timeline(self.setup, seat_of(self.setup, self.place), self.world())

    def __len__(self):
        return len(self.texts)

    def __eq__(self, other):
        return isinstance(other, Gathering) and parts_of(self) == parts_of(other)


def parts_of(gathering):
    """All that a gathering is told by."""
    return (gathering.setup, gathering.place, gathering.tick, gathering.many, gathering.texts)


def told_world(text):
    """The world that a text tells, None if it tells none."""
    try:
        return read_world(text)
    except InvalidWorld:
        return None


def need_piece_letter(value):
    """Refuse what is no piece letter."""
    if not is_letter(value) or value[0] != "piece":
        raise InvalidLetter("a gathering hears piece letters alone")


def gathered(setup, place, letters):
    """The gathering behind piece letters."""
    gathering = Gathering(setup, place)
    if not isinstance(letters, tuple) or len(letters) > MOST_LETTERS:
        raise InvalidLetter("letters are a tuple of at most 400")
    for letter in letters:
        gathering = gathering.heard(letter)
    return gathering
