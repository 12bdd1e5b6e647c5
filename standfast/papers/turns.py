"""Papers that loads which come in turn make the structure yield again and again."""

from standfast.elastic.enclosing import reach
from standfast.papers.falls import is_agreed, is_choice, is_side, work
from standfast.papers.yielding import Answers, added
from standfast.ratios import ZERO, less, minus, plus, ratio, times, total
from standfast.roots import root_above
from standfast.structure.grid import Grid


def gain_and_lever(structure, yields, movement, pairs):
    """Return the pair of the gain and the lever of turns."""
    return gain_and_lever_by(structure, Answers(Grid(structure), structure, pairs), yields, movement)


def gain_and_lever_by(structure, answers, yields, movement):
    """Return the gain and the lever of turns, by the Answers to the loads."""
    spent = []
    levers = []
    for at, choice, amount in yields:
        side = structure.sides[at]
        spent.append(times(amount, lack(answers, side, choice)))
        levers.append(times(amount, root_above(reach(structure, side.component))))
    return (minus(work(structure.base, movement), total(spent)), total(levers))


def turns(structure, yields, movement, pairs):
    """Return True if the turns hold."""
    answers = Answers(Grid(structure), structure, pairs)
    if len(yields) == 0 or not all([is_yield(structure, answers, item) for item in yields]):
        return False
    if not is_agreed(structure, movement, [(at, amount) for at, _, amount in yields]):
        return False
    gain, _ = gain_and_lever_by(structure, answers, yields, movement)
    return less(ZERO, gain)


def lack(answers, side, choice):
    """Return the lack of a yield of a side under a choice."""
    rises = [answers.answer(group, index).rise_of(side.component, -side.sign) for group, index in enumerate(choice)]
    n, d = added(rises)
    return plus(side.most, ratio(n, d))


def is_yield(structure, answers, item):
    """Return True if a yield has a side that yields, an amount above 0, and a choice whose pairs are in balance."""
    at, choice, amount = item
    if not is_side(structure, at) or structure.sides[at].breaks:
        return False
    if not less(ZERO, amount) or not is_choice(structure, choice):
        return False
    return all([answers.is_balanced(group, index) for group, index in enumerate(choice)])
