"""How the host closes ticks."""

from settledplay.play.keys import AWAY, FILLED, stay_behind
from settledplay.rules.joints import WORDS


def is_filled_entry(entry):
    """Whether an entry was filled in for a seat."""
    return entry >= FILLED


def is_silent_behind(setup, row, seat):
    """Whether a seat was filled too often behind a row; the seat 0 never is silent."""
    if seat == 0 or len(row) < setup.silence:
        return False
    return all([is_filled_entry(joint[seat]) for joint in row[-setup.silence:]])


def next_entry(setup, row, notes, seat):
    """The entry of a seat from 1 on for the next tick without patience, None if the seat lacks a word."""
    how = stay_behind(setup, row, seat)
    word = notes.word(seat, len(row))
    if how == "out" or (how == "ahead" and word is None):
        return AWAY
    if how == "in" and (seat in notes.goers or is_silent_behind(setup, row, seat)):
        return AWAY
    return word


def next_joint(setup, row, notes, line):
    """The entries for the next tick without patience, None for each seat that is in and lacks a word."""
    return [own_word(line, len(row))] + [next_entry(setup, row, notes, seat) for seat in range(1, setup.seats)]


def own_word(line, tick):
    """The word of the host's own seat for a tick, None if there is none."""
    at = tick - line.settled
    return line.said[at] if at < len(line.said) else None


def filled_entry(row, seat):
    """What is filled in for a seat that is in, but lacks a word."""
    return FILLED + (0 if len(row) == 0 else row[-1][seat] % WORDS)


def closed_without(setup, row, notes, line):
    """The row with all ticks that can be closed without patience."""
    joint = next_joint(setup, row, notes, line)
    while None not in joint:
        row = (*row, tuple(joint))
        joint = next_joint(setup, row, notes, line)
    return row


def closed_with(setup, row, notes, line):
    """The row with the next tick closed by fillings, and with further ones; as it was if the seat 0 has no word."""
    joint = next_joint(setup, row, notes, line)
    if joint[0] is None:
        return row
    entries = [filled_entry(row, seat) if entry is None else entry for seat, entry in enumerate(joint)]
    return closed_without(setup, (*row, tuple(entries)), notes, line)
