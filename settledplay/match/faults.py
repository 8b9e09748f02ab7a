"""The main statements of a standing, looked at one by one."""

from settledplay.disk.book import each_fall, row_read
from settledplay.play.keys import is_row_of_match
from settledplay.play.step import plain_worlds, stepped
from settledplay.rules.joints import WORDS


def fault_of(standing):
    """The first statement that is not true of a sure standing, None if all are."""
    setup = standing.setup
    row = standing.row
    if not is_row_of_match(setup, row) or row_read(setup, (), standing.disk.lasting) != row:
        return ("row",)
    worlds = list(plain_worlds(setup.game, row))
    for word in LINES:
        action = LINES[word]
        for place in range(len(standing.players) + 1):
            line = standing.line(place)
            if line is not None and not action(row, worlds, line):
                return (word, place)
    for number, letter in enumerate(standing.bag.letters):
        if not is_letter_of_row(row, letter):
            return ("letters", number)
    return None if does_disk_hold(standing) else ("disk",)


def does_know_stretch(row, worlds, line):
    """Whether what a timeline knows is a stretch of the row."""
    return line.base <= len(row) and line.row == row[line.base:line.settled]


def is_settled_right(row, worlds, line):
    """Whether the settled world of a timeline is the plain one."""
    return line.settled_world == worlds[line.settled]


def is_shown_right(row, worlds, line):
    """Whether the shown world of a timeline comes from a plain one by steps with the used words."""
    if not line.settled - line.setup.delay <= line.shown <= line.settled + line.setup.window:
        return False
    begin = min(line.settled, line.shown)
    world = worlds[begin]
    for tick in range(begin, line.shown):
        world = stepped(line.setup.game, world, line.used(tick))[0]
    return line.shown_world == world


def are_own_right(row, worlds, line):
    """Whether the own words of a timeline are what the row has as said by its seat."""
    told = [(row[tick][line.seat], word) for tick, word in line.own.items() if tick < len(row)]
    return all([entry == word for entry, word in told if 0 <= entry < WORDS])


LINES = {
    "timeline": does_know_stretch,
    "settled": is_settled_right,
    "shown": is_shown_right,
    "own": are_own_right,
}


def is_letter_of_row(row, letter):
    """Whether a letter tells nothing but what the row has."""
    if letter[0] == "rows":
        _, _, first, entries = letter
        return first <= len(row) and entries == row[first:first + len(entries)]
    return letter[0] != "keys" or letter[2] <= len(row)


def does_disk_hold(standing):
    """Whether each fall leaves a row between the settled one and the closed one."""
    for left in each_fall(standing.disk):
        # What is sure was read for the settled row, so reading goes on from there, and what is found begins with it.
        found = row_read(standing.setup, standing.row, left.blocks[standing.disk.sure:])
        if found != standing.host.closed[:len(found)]:
            return False
    return True
