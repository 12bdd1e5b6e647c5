"""Lines of ratios, with one blank between two of them: lists, indices and pairs in them."""

from standfast.errors import InvalidRatio, StandfastError
from standfast.ratios import ratio
from standfast.written import read_ratio, write_ratio


class Unreadable(StandfastError):
    """Ratios are not as they must be. Readers of whole texts catch this."""


class Numbers:
    """The ratios of a line, and how many of them are taken."""

    def __init__(self, line):
        self.ratios = [ratio_of(word) for word in line.split(" ")]
        self.taken = 0

    def take_ratio(self):
        """Take the next ratio and return it."""
        if self.taken == len(self.ratios):
            raise Unreadable("a ratio is missing")
        self.taken += 1
        return self.ratios[self.taken - 1]

    def take_index(self):
        """Take an integer of at least 0 and return it."""
        n, d = self.take_ratio()
        if d != 1 or n < 0:
            raise Unreadable("an index or a count is no integer, or below 0")
        return n

    def finish(self):
        """Refuse anything that is left over."""
        if self.taken < len(self.ratios):
            raise Unreadable("something is left over")


def ratio_of(word):
    """Return the ratio that a word is the written form of."""
    try:
        return read_ratio(word)
    except InvalidRatio:
        raise Unreadable("a word is not the written form of a ratio")


def line_behind(text, first):
    """Return the second one of the two lines of a text if the first one is as expected, otherwise None."""
    lines = text.split("\n")
    if len(lines) != 3 or lines[0] != first or lines[2] != "":
        return None
    return lines[1]


def lines_of(first, ratios):
    """Return the text of a line and a line of ratios."""
    words = " ".join([write_ratio(a) for a in ratios])
    return f"{first}\n{words}\n"


def take_ratio(numbers):
    """Take a ratio."""
    return numbers.take_ratio()


def take_index(numbers):
    """Take an index."""
    return numbers.take_index()


def take_list(numbers, take_item):
    """Take a list whose items a function takes, and return it."""
    found = []
    # Each item has a ratio at least, so a count that is too great ends with the line.
    for _ in range(numbers.take_index()):
        found.append(take_item(numbers))
    return found


def take_ratios(numbers):
    """Take a list of ratios."""
    return take_list(numbers, take_ratio)


def take_indices(numbers):
    """Take a list of indices."""
    return take_list(numbers, take_index)


def take_members(numbers):
    """Take the members of a set, in ascending order."""
    members = take_indices(numbers)
    if not all([first < second for first, second in zip(members, members[1:])]):
        raise Unreadable("members are not in ascending order")
    return members


def take_entry(numbers):
    """Take an index and a ratio."""
    at = numbers.take_index()
    return (at, numbers.take_ratio())


def take_entries(numbers):
    """Take a list of an index and a ratio each."""
    return take_list(numbers, take_entry)


def list_ratios(items, ratios_of):
    """Return the ratios of a list, by a function that tells those of an item."""
    found = [ratio(len(items))]
    for item in items:
        found.extend(ratios_of(item))
    return found


def single(a):
    """Return the ratios of a ratio."""
    return [a]


def index_ratios(index):
    """Return the ratios of an index."""
    return [ratio(index)]


def indices_ratios(indices):
    """Return the ratios of a list of indices."""
    return list_ratios(indices, index_ratios)


def entry_ratios(entry):
    """Return the ratios of an index and a ratio."""
    at, amount = entry
    return [ratio(at), amount]


def entries_ratios(entries):
    """Return the ratios of a list of an index and a ratio each."""
    return list_ratios(entries, entry_ratios)
