"""The search for the lightest choice of sections."""

from standfast.errors import InvalidLists
from standfast.finding.verdict import found_borne, found_bounds, if_accepted
from standfast.lightest.boxes import found_by_stock
from standfast.lightest.lists import fit, whole_box, with_choice
from standfast.lightest.stock import Stock
from standfast.lightest.trees import open_weights, parted
from standfast.papers.ground import Site
from standfast.ratios import at_most, lesser_one


class Search:
    """How many boxes may still be examined, and the lightest choice so far with its weight and its paper, or None."""

    def __init__(self, stock, boxes):
        self.stock = stock
        self.boxes = boxes
        self.choice = None
        self.weight = None
        self.paper = None

    def examined(self, box):
        """Examine a box, and return its tree."""
        if self.boxes == 0:
            return ("open",)
        self.boxes -= 1
        fall = found_by_stock(self.stock, box)
        if fall is not None:
            lost, choice, movement = fall
            return ("fall", lost, choice, movement)
        if self.weight is not None and at_most(self.weight, self.stock.least_weight(box)):
            return ("heavy",)
        many = max([len(places) for places in box], default=1)
        if many == 1:
            return ("heavy",) if self.takes([places[0] for places in box]) else ("open",)
        at = [len(places) for places in box].index(many)
        places = box[at][:many // 2]
        here, others = parted(box, at, places)
        first = self.examined(here)
        return ("split", at, places, first, self.examined(others))

    def takes(self, choice):
        """Take a choice, which is lighter than the one before, if it stands; return False if it does not."""
        site = Site(with_choice(self.stock.frame, self.stock.lists, choice))
        paper = if_accepted(site, found_bounds(site))
        if paper is None:
            paper = if_accepted(site, found_borne(site))
        if paper is None:
            return False
        self.choice = choice
        self.weight = self.stock.least_weight([(index,) for index in choice])
        self.paper = paper
        return True


def lightest(frame, lists, boxes):
    """Return the found choice, its weight, the least of the tree, the choice's paper, and the tree."""
    if not fit(frame, lists):
        raise InvalidLists("the lists do not fit the frame")
    stock = Stock(frame, lists)
    search = Search(stock, boxes)
    box = whole_box(lists)
    tree = search.examined(box)
    least = search.weight
    for weight in open_weights(stock, box, tree):
        least = weight if least is None else lesser_one(least, weight)
    return (search.choice, search.weight, least, search.paper, tree)
