"""The bag: all letters that were sent, and rows of numbers by which they are handed over."""

from settledplay.base.checks import is_within
from settledplay.errors import InvalidLetter, InvalidNumber, InvalidOperation
from settledplay.net.letters import HOST, MOST_SEAT, goal_of, is_letter, need_letter


class Bag:
    """Letters, numbered as they were sent."""

    def __init__(self, letters=()):
        need_letters(letters)
        self._fill(letters)

    def _fill(self, letters):
        """Set the letters; only for a bag that nobody has seen yet."""
        self.letters = letters

    def sent(self, letter):
        """The bag with a further letter."""
        need_letter(letter)
        return bag_of((*self.letters, letter))

    def sent_all(self, letters):
        """The bag with further letters."""
        need_letters(letters)
        return bag_of(self.letters + letters)

    def letter(self, number):
        """The letter with a number."""
        if not is_number_of(self, number):
            raise InvalidNumber(number)
        return self.letters[number]

    def to(self, goal):
        """The numbers of the letters with a goal."""
        if not is_within(goal, HOST, MOST_SEAT):
            raise InvalidNumber(goal)
        return tuple([number for number, letter in enumerate(self.letters) if goal_of(letter) == goal])

    def __len__(self):
        return len(self.letters)

    def __eq__(self, other):
        return isinstance(other, Bag) and self.letters == other.letters

    def __str__(self):
        return f"bag of {len(self.letters)} letters"


def bag_of(letters):
    """A bag of letters that are sure, as asking all of them for each further one would take long."""
    bag = Bag()
    bag._fill(letters)
    return bag


def need_letters(value):
    """Refuse what is no tuple of letters."""
    if not isinstance(value, tuple) or not all([is_letter(letter) for letter in value]):
        raise InvalidLetter("a bag has letters")


def is_number_of(bag, value):
    """Whether the value is the number of a letter."""
    return is_within(value, 0, len(bag.letters) - 1)


def judged_handing(bag, handing):
    """The numbers of the letters that a handing loses, doubles and overtakes."""
    if not isinstance(bag, Bag):
        raise InvalidOperation("a handing is judged for a bag")
    if not isinstance(handing, tuple) or not all([is_number_of(bag, number) for number in handing]):
        raise InvalidOperation("a handing is a tuple of numbers of letters")
    times = [0 for _ in bag.letters]
    # The greatest number that each goal was handed so far.
    greatest = {}
    overtaken = []
    for number in handing:
        goal = goal_of(bag.letters[number])
        if times[number] == 0 and number < greatest.get(goal, 0):
            overtaken.append(number)
        times[number] = times[number] + 1
        greatest[goal] = max(number, greatest.get(goal, 0))
    lost = [number for number, count in enumerate(times) if count == 0]
    doubled = [number for number, count in enumerate(times) if count > 1]
    return (tuple(lost), tuple(doubled), tuple(sorted(overtaken)))
