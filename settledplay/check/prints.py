"""Prints of worlds, and papers that name a seat whose worlds are not those of the row."""

from settledplay.base.checks import is_within
from settledplay.base.texts import need_text
from settledplay.errors import InvalidOperation
from settledplay.play.step import behind_words, stepped
from settledplay.rules.forms import need_game
from settledplay.rules.joints import need_row
from settledplay.world.worlds import does_belong, first_world, need_world, world_text

PRINT_BASE = 31
PRINT_MODULUS = 999999937
HEAD = -1


def is_print(value):
    """Whether the value is a print."""
    return is_within(value, 0, PRINT_MODULUS - 1)


def text_print(text):
    """The print of a text."""
    need_text(text)
    return print_of(text)


def print_of(text):
    """The print of a sure text, however long it is."""
    number = 0
    for sign in text:
        number = (number * PRINT_BASE + ord(sign)) % PRINT_MODULUS
    return number


def world_print(world):
    """The print of a world."""
    need_world(world)
    return print_of(world_text(world))


def unlike_parts(one, other):
    """The parts that are unlike in two worlds: the head, and ids of things."""
    need_world(one)
    need_world(other)
    return parts_unlike(one, other)


def parts_unlike(one, other):
    """The unlike parts of what surely are worlds."""
    head = [] if head_of(one) == head_of(other) else [HEAD]
    ids = sorted(set([*one.order, *other.order]))
    return tuple(head + [thing for thing in ids if one.table.get(thing) != other.table.get(thing)])


def head_of(world):
    """What a world has beside its things."""
    return (world.tick, world.next_id, world.luck)


def need_report(game, row, value):
    """Refuse what does not go together as a game, a row and a report for it."""
    need_game(game)
    need_row(game, row)
    if not isinstance(value, tuple) or not 1 <= len(value) <= len(row) + 1:
        raise InvalidOperation("a report has a world at least, and at most one more than the row has joint words")
    if not all([does_belong(game, world) for world in value]):
        raise InvalidOperation("a report is a tuple of worlds of the game")


def due_world(game, row, report, tick):
    """What one step makes of the report's own world of the tick ahead; at the tick 0 the first world of the game."""
    if tick == 0:
        return first_world(game)
    return stepped(game, report[tick - 1], row[tick - 1])[0]


def first_stray(game, row, report):
    """The tick at which a seat with the report strays from the row, None for a straight report."""
    need_report(game, row, report)
    return stray_tick(game, row, report)


def stray_tick(game, row, report):
    """The tick of the first world that does not follow the one ahead: those ahead of it all are plain."""
    for tick, world in enumerate(report):
        if world != due_world(game, row, report, tick):
            return tick
    return None


def stray_paper(game, row, report):
    """A paper that shows that a report is not straight, None for a straight one."""
    need_report(game, row, report)
    tick = stray_tick(game, row, report)
    if tick is None:
        return None
    return ("step", tick, parts_unlike(report[tick], due_world(game, row, report, tick))[0])


def is_stray_paper(game, row, report, value):
    """Whether the value is a stray paper of the report."""
    need_report(game, row, report)
    if not is_paper(value, "step", 3) or not is_within(value[1], 0, len(report) - 1):
        return False
    # An id can have outgrown what may be passed: it is right if a part has it.
    if not isinstance(value[2], int) or isinstance(value[2], bool):
        return False
    return value[2] in parts_unlike(report[value[1]], due_world(game, row, report, value[1]))


def is_paper(value, word, length):
    """Whether the value is a tuple of this length that begins with the word."""
    return isinstance(value, tuple) and len(value) == length and isinstance(value[0], str) and value[0] == word


def is_print_paper(game, row, value):
    """Whether the value is a paper that shows a wrong print of a plain world."""
    need_game(game)
    need_row(game, row)
    if not is_paper(value, "print", 4) or not is_within(value[1], 0, len(row)):
        return False
    _, tick, told, due = value
    if not is_print(told) or not is_print(due) or told == due:
        return False
    return due == world_print(behind_words(game, first_world(game), row[:tick]))


def are_prints(value):
    """Whether the value is a tuple of at least one print."""
    return isinstance(value, tuple) and len(value) > 0 and all([is_print(number) for number in value])


def halved(told, due):
    """A tick whose prints are unlike, those of the tick ahead being equal, or None; and the ticks looked at."""
    for value in (told, due):
        if not are_prints(value):
            raise InvalidOperation("prints are a tuple of at least one integer from 0 to 999999936")
    if len(told) != len(due):
        raise InvalidOperation("the told prints are not as many as those that are due")
    last = len(told) - 1
    if told[0] != due[0]:
        return (0, (0,))
    looked = [0, last] if last > 0 else [0]
    if told[last] == due[last]:
        return (None, tuple(looked))
    equal = 0
    unlike = last
    while unlike - equal > 1:
        half = (equal + unlike) // 2
        looked.append(half)
        if told[half] == due[half]:
            equal = half
        else:
            unlike = half
    return (unlike, tuple(looked))
