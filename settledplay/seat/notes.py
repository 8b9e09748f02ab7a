"""What a host has noted of the letters that it heard."""

from settledplay.play.keys import stay_behind


class Notes:
    """Words that wait, how far each place is known to be settled, worlds that are offered, and who wants to go."""

    def __init__(self, words, known, worlds, goers):
        # By seats, then by ticks; no seat without words.
        self.words = words
        # By places; just those of which a keys letter was heard.
        self.known = known
        self.worlds = worlds
        self.goers = goers

    def word(self, seat, tick):
        """The word of a seat that waits for a tick, None if there is none."""
        return self.words.get(seat, {}).get(tick)

    def with_words(self, seat, first, words, closed):
        """With the words of a keys letter: the first one for each tick counts, none for a closed tick."""
        waiting = dict(self.words.get(seat, {}))
        for tick, word in enumerate(words, start=first):
            if tick >= closed and tick not in waiting:
                waiting[tick] = word
        return Notes(with_item(self.words, seat, waiting), self.known, self.worlds, self.goers)

    def with_mark(self, place, mark):
        """With the settled tick that a keys letter tells, which ends an offer."""
        worlds = {other: self.worlds[other] for other in self.worlds if other != place}
        known = with_item(self.known, place, max(mark, self.known.get(place, 0)))
        return Notes(self.words, known, worlds, self.goers)

    def with_offer(self, place, world):
        """With an offer, unless there is one."""
        worlds = self.worlds if place in self.worlds else with_item(self.worlds, place, world)
        return Notes(self.words, self.known, worlds, self.goers)

    def with_goer(self, seat):
        """With a seat that wants to go."""
        return Notes(self.words, self.known, self.worlds, tuple(sorted(set([*self.goers, seat]))))

    def behind(self, setup, row):
        """Without what waits no more when the row is closed."""
        words = {}
        for seat in self.words:
            waiting = {tick: word for tick, word in self.words[seat].items() if tick >= len(row)}
            if len(waiting) > 0 and stay_behind(setup, row, seat) != "out":
                words[seat] = waiting
        goers = [seat for seat in self.goers if stay_behind(setup, row, seat) == "in"]
        return Notes(words, self.known, self.worlds, tuple(goers))


def no_notes():
    """The notes of a host that has heard nothing."""
    return Notes({}, {}, {}, ())


def with_item(table, key, item):
    """A dict with one item more, or another one."""
    changed = dict(table)
    changed[key] = item
    return changed
