"""What is told of a match without a run: even rounds, and how soon calm rounds settle a tick."""

from settledplay.base.checks import need_within
from settledplay.errors import InvalidOperation, InvalidWord, Refused
from settledplay.match.match import need_standing
from settledplay.play.keys import is_word, need_setup

MAX_LATE = 12


def need_rounds(setup, late):
    """Refuse what is no setup and no number for even rounds."""
    need_setup(setup)
    need_within(late, 1, MAX_LATE)


def need_words(setup, words):
    """Refuse what is no tuple of a key word for each seat in each round."""
    if not isinstance(words, tuple) or not all([are_words(setup, told) for told in words]):
        raise InvalidWord("the words of a round are a tuple of a key word for each seat")


def are_words(setup, value):
    """Whether the value is a tuple of a key word for each seat."""
    return isinstance(value, tuple) and len(value) == setup.seats and all([is_word(word) for word in value])


def need_all_starters(setup):
    """Refuse a setup in which not all seats, at least two, are starters."""
    if setup.seats < 2 or len(setup.starters) < setup.seats:
        raise InvalidOperation("in even rounds all seats, at least two, are starters")


def need_even(setup, late):
    """Refuse rounds for which the formulas do not hold."""
    need_all_starters(setup)
    if setup.window < 2 * late:
        raise Refused(("waits",))
    if setup.patience <= late:
        raise Refused(("fills",))


def even_schedule(setup, late, words):
    """The acts of even rounds."""
    need_rounds(setup, late)
    need_words(setup, words)
    need_all_starters(setup)
    # In each round a letter goes from each other seat to the host, and one from the host to each.
    many = 2 * (setup.seats - 1)
    acts = []
    for at, told in enumerate(words):
        first = (at - late) * many
        acts.extend([("hand", number) for number in range(max(0, first), max(0, first + many))])
        acts.extend([("beat", seat, word) for seat, word in enumerate(told)])
        acts.append(("tell",))
    return tuple(acts)


def even_row(setup, late, words):
    """The settled row behind even rounds."""
    need_rounds(setup, late)
    need_words(setup, words)
    need_even(setup, late)
    last = len(words) - 1
    if last < late:
        return ()
    return tuple([words[max(0, tick - setup.delay)] for tick in range(last - late + setup.delay + 1)])


def does_never_wait(setup, late):
    """Whether nobody waits in even rounds."""
    need_rounds(setup, late)
    need_all_starters(setup)
    return setup.window >= 2 * late


def even_depths(setup, late):
    """How many steps run again at the most: at machines first and later, at the host first and later."""
    need_rounds(setup, late)
    need_even(setup, late)
    return (2 * late, max(0, 2 * late - setup.delay), late + 1, max(0, late + 1 - setup.delay))


def calm_round(standing):
    """The acts of a calm round."""
    need_standing(standing)
    return done_round(standing)[0]


def done_round(standing):
    """The acts of a calm round, and the standing behind it."""
    beats = [("beat", player.place, 0) for player in awake(standing)]
    acts, between = sent_and_heard(standing, beats)
    more, after = sent_and_heard(between, [("beat", 0, 0), ("tell",)])
    return (tuple(acts + more), after)


def sent_and_heard(standing, acts):
    """Acts with the handing over of each letter that is sent by them, and the standing behind all."""
    between = behind_acts(standing, acts)
    hands = [("hand", number) for number in range(len(standing.bag), len(between.bag))]
    return (acts + hands, behind_acts(between, hands))


def behind_acts(standing, acts):
    """The standing behind acts."""
    for act in acts:
        standing = standing.after(act)
    return standing


def awake(standing):
    """The machines that are there or coming."""
    return [player for player in standing.players if player.state in ("there", "coming")]


def calm_goal(standing):
    """The goal of a standing."""
    need_standing(standing)
    return goal_of_standing(standing)


def goal_of_standing(standing):
    """One more than the settled tick of the host."""
    return len(standing.row) + 1


def calm_schedule(standing):
    """The acts of as few calm rounds as reach the goal."""
    need_standing(standing)
    goal = goal_of_standing(standing)
    places = [0] + [player.place for player in awake(standing)]
    acts = ()
    is_reached = False
    while not is_reached:
        more, standing = done_round(standing)
        acts = acts + more
        is_reached = are_settled(standing, places, goal)
    return acts


def are_settled(standing, places, goal):
    """Whether the timelines of places have a settled tick of at least the goal."""
    lines = [standing.line(place) for place in places]
    return all([line is not None and line.settled >= goal for line in lines])


def calm_bound(standing):
    """The bound on the number of calm rounds that reach the goal."""
    need_standing(standing)
    ticks = [len(standing.row)]
    for player in awake(standing):
        ticks.extend(known_ticks(standing.host, player))
    setup = standing.setup
    each = 2 * setup.window + setup.delay
    gap = goal_of_standing(standing) - min(ticks)
    return setup.patience + 1 + (gap + each - 1) // each


def known_ticks(host, player):
    """The ticks from which a machine has to come to the goal."""
    if player.state == "there":
        return [player.timeline.settled]
    offers = host.offers
    offered = [offers[player.place].tick] if player.place in offers else []
    return offered if player.gathering.tick is None else [*offered, player.gathering.tick]
