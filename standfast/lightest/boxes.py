"""Falls of boxes: loads that nothing bears with any choice of a box."""

from standfast.lightest.plans import Plan
from standfast.lightest.stock import Stock
from standfast.papers.falls import added_up, choice_load, is_choice, work
from standfast.papers.ground import is_set
from standfast.papers.loads import distinct_choices
from standfast.ratios import ZERO, less
from standfast.structure.balance import strains_by
from standfast.structure.grid import Grid, here
from standfast.structure.rows import add_rows
from standfast.structure.statics import Statics


def fall_holds(frame, lists, box, lost, choice, movement):
    """Return True if a fall holds for a box."""
    return holds_by_stock(Stock(frame, lists), box, (lost, choice, movement))


def holds_by_stock(stock, box, fall):
    """Return True if a fall (lost, choice, movement) holds for a box, by the Stock of the frame and its lists."""
    lost, choice, movement = fall
    if not is_set(stock.site, lost):
        return False
    bare = stock.site.bare(lost)
    if not is_choice(bare, choice):
        return False
    moved = added_up(movement)
    strains = strains_by(bare, tuple([moved.get(place, ZERO) for place in range(len(bare.free))]))
    cost = stock.cost(box, {member: strains[member] for member in here(bare)})
    return less(cost, work(choice_load(bare, choice), movement))


def found_box_fall(frame, lists, box):
    """Return the fall (lost, choice, movement) of the first set and choice that have one for a box, or None."""
    return found_by_stock(Stock(frame, lists), box)


def found_by_stock(stock, box):
    """Return the found fall of a box, by the Stock of the frame and its lists, or None."""
    grid = Grid(stock.site.structure)
    for lost in stock.site.sets():
        bare = stock.site.bare(lost)
        plan = Plan(stock, box, bare, Statics(grid, bare))
        for choice, force in distinct_choices(bare):
            pull = add_rows([bare.base.force, force])
            # Just the loads that no mixture of sections bears have a fall, and it takes less to see that.
            if not plan.bears(pull):
                return (lost, tuple(choice), plan.movement(pull))
    return None
