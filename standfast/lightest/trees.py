"""Trees that show what a choice of sections weighs at least."""

from standfast.errors import InvalidTree
from standfast.lightest.boxes import holds_by_stock
from standfast.lightest.stock import Stock
from standfast.papers.listing import (
    Numbers, Unreadable, entries_ratios, indices_ratios, line_behind, lines_of, take_entries, take_indices,
    take_members,
)
from standfast.ratios import at_most, lesser_one, ratio

FIRST_LINE = "standfast lighter"
MOST_NESTED = 30


def is_right(frame, lists, box, limit, tree):
    """Return True if a tree is right for a box and a limit."""
    return right_by_stock(Stock(frame, lists), box, limit, tree, MOST_NESTED)


def right_by_stock(stock, box, limit, tree, nested):
    """Return True if a tree with so many splits in one another at most is right, by the Stock of the frame."""
    kind = tree[0]
    if kind == "fall":
        return holds_by_stock(stock, box, tree[1:])
    if kind == "heavy":
        return at_most(limit, stock.least_weight(box))
    if kind == "open":
        return True
    _, at, places, first, second = tree
    if nested == 0 or not splits(box, at, places):
        return False
    here, others = parted(box, at, places)
    return (right_by_stock(stock, here, limit, first, nested - 1)
            and right_by_stock(stock, others, limit, second, nested - 1))


def splits(box, at, places):
    """Return True if places are ascending, and some but not all of a box's indices of a list."""
    if not 0 <= at < len(box) or not 0 < len(places) < len(box[at]):
        return False
    if not all([first < second for first, second in zip(places, places[1:])]):
        return False
    return all([place in box[at] for place in places])


def parted(box, at, places):
    """Return the box with these indices of a list, and the one with all others."""
    others = tuple([place for place in box[at] if place not in places])
    return with_places(box, at, places), with_places(box, at, others)


def with_places(box, at, places):
    """Return a box with other indices of a list."""
    return [places if index == at else own for index, own in enumerate(box)]


def least_of(frame, lists, box, limit, tree):
    """Return the least of a right tree."""
    found = limit
    for weight in open_weights(Stock(frame, lists), box, tree):
        found = lesser_one(found, weight)
    return found


def open_weights(stock, box, tree):
    """Return the list of what the boxes of the open trees in a tree weigh at least."""
    if tree[0] == "open":
        return [stock.least_weight(box)]
    if tree[0] != "split":
        return []
    _, at, places, first, second = tree
    here, others = parted(box, at, places)
    return open_weights(stock, here, first) + open_weights(stock, others, second)


def write_tree(tree):
    """Return the text of a tree."""
    return lines_of(FIRST_LINE, tree_ratios(tree))


def read_tree(text):
    """Return the tree that a text is."""
    line = line_behind(text, FIRST_LINE)
    if line is None:
        raise InvalidTree("the lines are not those of a tree")
    try:
        numbers = Numbers(line)
        tree = take_tree(numbers, MOST_NESTED)
        numbers.finish()
    except Unreadable as why:
        raise InvalidTree(str(why))
    return tree


def take_tree(numbers, nested):
    """Take a tree with so many splits in one another at most."""
    kind = numbers.take_index()
    if kind == 0:
        return ("heavy",)
    if kind == 1:
        lost = tuple(take_members(numbers))
        choice = tuple(take_indices(numbers))
        return ("fall", lost, choice, take_entries(numbers))
    if kind == 2:
        return ("open",)
    if kind != 3 or nested == 0:
        raise Unreadable("there is no such kind of tree, or too many splits are nested in one another")
    at = numbers.take_index()
    places = tuple(take_indices(numbers))
    first = take_tree(numbers, nested - 1)
    return ("split", at, places, first, take_tree(numbers, nested - 1))


def tree_ratios(tree):
    """Return the ratios of a tree."""
    kind = tree[0]
    if kind == "fall":
        _, lost, choice, movement = tree
        return [ratio(1)] + indices_ratios(lost) + indices_ratios(choice) + entries_ratios(movement)
    if kind == "heavy":
        return [ratio(0)]
    if kind == "open":
        return [ratio(2)]
    _, at, places, first, second = tree
    return [ratio(3), ratio(at)] + indices_ratios(places) + tree_ratios(first) + tree_ratios(second)
