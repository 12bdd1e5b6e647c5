"""Papers that loads which come in turn make the structure yield again and again."""

from standfast.elastic.enclosing import reach
from standfast.papers.falls import is_agreed, is_choice, is_side, work
from standfast.papers.yielding import enclosure_at, is_pair_balanced, pair_at
from standfast.ratios import ZERO, less, minus, plus, times, total
from standfast.roots import root_above


def gain_and_lever(structure, yields, movement, pairs):
    """Return the pair of the gain and the lever of turns."""
    spent = []
    levers = []
    for at, choice, amount in yields:
        side = structure.sides[at]
        spent.append(times(amount, lack(structure, side, choice, pairs)))
        levers.append(times(amount, root_above(reach(structure, side.component))))
    return (minus(work(structure.base, movement), total(spent)), total(levers))


def turns(structure, yields, movement, pairs):
    """Return True if the turns hold."""
    if len(yields) == 0 or not all([is_yield(structure, item, pairs) for item in yields]):
        return False
    if not is_agreed(structure, movement, [(at, amount) for at, _, amount in yields]):
        return False
    gain, _ = gain_and_lever(structure, yields, movement, pairs)
    return less(ZERO, gain)


def lack(structure, side, choice, pairs):
    """Return the lack of a yield of a side under a choice."""
    found = side.most
    for group, index in enumerate(choice):
        answer = enclosure_at(structure, pairs, group, index)
        found = plus(found, answer.rise_of(side.component, -side.sign))
    return found


def is_yield(structure, item, pairs):
    """Return True if a yield has a side that yields, an amount above 0, and a choice whose pairs are in balance."""
    at, choice, amount = item
    if not is_side(structure, at) or structure.sides[at].breaks:
        return False
    if not less(ZERO, amount) or not is_choice(structure, choice):
        return False
    for group, index in enumerate(choice):
        load = structure.groups[group][index]
        if not is_pair_balanced(structure, pair_at(pairs, group, index), load):
            return False
    return True
