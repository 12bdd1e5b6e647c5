"""The four kinds of papers of a site, and set papers."""

from standfast.copies import as_tuples


class SetPaper:
    """A set of lost members, its YieldPaper, and a unit pair for each asked movement."""

    def __init__(self, lost, paper, units):
        self.lost = as_tuples(lost)
        self.paper = paper
        self.units = as_tuples(units)


class Bounds:
    """Set papers: all yielding stays within a total, and asked movements within bounds."""

    def __init__(self, sets):
        self.kind = "bounds"
        self.sets = as_tuples(sets)


class Borne:
    """Forces for each set and each choice: all is borne."""

    def __init__(self, forces):
        self.kind = "borne"
        self.forces = as_tuples(forces)


class Turns:
    """A set, and loads in turn that make what is left yield again and again."""

    def __init__(self, lost, yields, movement, pairs):
        self.kind = "turns"
        self.lost = as_tuples(lost)
        self.yields = as_tuples(yields)
        self.movement = as_tuples(movement)
        self.pairs = as_tuples(pairs)


class Falls:
    """A set, and loads that nothing in what is left bears."""

    def __init__(self, lost, choice, movement, amounts):
        self.kind = "falls"
        self.lost = as_tuples(lost)
        self.choice = as_tuples(choice)
        self.movement = as_tuples(movement)
        self.amounts = as_tuples(amounts)
