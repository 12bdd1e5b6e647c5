"""The texts of papers."""

from standfast.errors import InvalidPaper
from standfast.papers.kinds import Borne, Bounds, Falls, SetPaper, Turns
from standfast.papers.listing import (
    Numbers, Unreadable, entries_ratios, indices_ratios, line_behind, lines_of, list_ratios, single, take_entries,
    take_indices, take_list, take_members, take_ratios,
)
from standfast.papers.yielding import YieldPaper
from standfast.ratios import ratio


def write_paper(paper):
    """Return the text of a paper."""
    ratios_of = WRITERS[paper.kind]
    return lines_of("standfast " + paper.kind, ratios_of(paper))


def read_paper(text):
    """Return the paper that a text is."""
    for kind in READERS:
        line = line_behind(text, "standfast " + kind)
        if line is not None:
            return read_kind(kind, line)
    raise InvalidPaper("the lines are not those of a paper")


def read_kind(kind, line):
    """Return the paper of a kind that the second line of a text tells."""
    take_paper = READERS[kind]
    try:
        numbers = Numbers(line)
        paper = take_paper(numbers)
        numbers.finish()
    except Unreadable as why:
        raise InvalidPaper(str(why))
    return paper


def take_pair(numbers):
    """Take a pair."""
    forces = take_ratios(numbers)
    return (forces, take_ratios(numbers))


def take_pairs(numbers):
    """Take a list of pairs."""
    return take_list(numbers, take_pair)


def take_set_paper(numbers):
    """Take a SetPaper."""
    lost = take_members(numbers)
    base = take_pair(numbers)
    pairs = take_list(numbers, take_pairs)
    margin = numbers.take_ratio()
    return SetPaper(lost, YieldPaper(base, pairs, margin), take_pairs(numbers))


def take_choices(numbers):
    """Take a list of forces for choices."""
    return take_list(numbers, take_ratios)


def take_yield(numbers):
    """Take a yield of turns."""
    side = numbers.take_index()
    choice = take_indices(numbers)
    return (side, choice, numbers.take_ratio())


def take_bounds(numbers):
    """Take a paper of bounds."""
    return Bounds(take_list(numbers, take_set_paper))


def take_borne(numbers):
    """Take a paper that all is borne."""
    return Borne(take_list(numbers, take_choices))


def take_turns(numbers):
    """Take a paper of turns."""
    lost = take_members(numbers)
    yields = take_list(numbers, take_yield)
    movement = take_entries(numbers)
    return Turns(lost, yields, movement, take_list(numbers, take_pairs))


def take_falls(numbers):
    """Take a paper of a fall."""
    lost = take_members(numbers)
    choice = take_indices(numbers)
    movement = take_entries(numbers)
    return Falls(lost, choice, movement, take_entries(numbers))


def ratios_ratios(ratios):
    """Return the ratios of a list of ratios."""
    return list_ratios(ratios, single)


def pair_ratios(pair):
    """Return the ratios of a pair."""
    forces, movements = pair
    return ratios_ratios(forces) + ratios_ratios(movements)


def pairs_ratios(pairs):
    """Return the ratios of a list of pairs."""
    return list_ratios(pairs, pair_ratios)


def set_paper_ratios(item):
    """Return the ratios of a SetPaper."""
    paper = item.paper
    found = indices_ratios(item.lost) + pair_ratios(paper.base) + list_ratios(paper.pairs, pairs_ratios)
    return found + [paper.margin] + pairs_ratios(item.units)


def choices_ratios(choices):
    """Return the ratios of a list of forces for choices."""
    return list_ratios(choices, ratios_ratios)


def yield_ratios(item):
    """Return the ratios of a yield of turns."""
    side, choice, amount = item
    return [ratio(side)] + indices_ratios(choice) + [amount]


def bounds_ratios(paper):
    """Return the ratios of a paper of bounds."""
    return list_ratios(paper.sets, set_paper_ratios)


def borne_ratios(paper):
    """Return the ratios of a paper that all is borne."""
    return list_ratios(paper.forces, choices_ratios)


def turns_ratios(paper):
    """Return the ratios of a paper of turns."""
    found = indices_ratios(paper.lost) + list_ratios(paper.yields, yield_ratios)
    return found + entries_ratios(paper.movement) + list_ratios(paper.pairs, pairs_ratios)


def falls_ratios(paper):
    """Return the ratios of a paper of a fall."""
    found = indices_ratios(paper.lost) + indices_ratios(paper.choice)
    return found + entries_ratios(paper.movement) + entries_ratios(paper.amounts)


READERS = {"bounds": take_bounds, "borne": take_borne, "turns": take_turns, "falls": take_falls}
WRITERS = {"bounds": bounds_ratios, "borne": borne_ratios, "turns": turns_ratios, "falls": falls_ratios}
