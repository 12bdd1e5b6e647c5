"""What is left of a frame, whose sections are to be chosen from a box, under a load."""

from standfast.lightest.strengths import borne_by
from standfast.programs.nearest import nearest
from standfast.programs.projection import can_be_met
from standfast.programs.unknowns import not_below_zero, numbers_at
from standfast.ratios import ONE, ZERO, at_most, negative, ratio, with_sign


class Kind:
    """Components that have the same section: how many there are to choose from, and what they bear with each.

    That is a list of pairs, pull and push, for each component.
    """

    def __init__(self, parts, sections):
        self.many = len(sections)
        self.borne = {at: [borne_by(part, section) for section in sections] for at, part in parts}

    def is_within(self, place, forces, by):
        """Return True if the forces are within what the components bear with the section at a place."""
        for at in self.borne:
            pull, push = self.borne[at][place]
            if not at_most((forces[at], by), pull) or not at_most((-forces[at], by), push):
                return False
        return True


class Plan:
    """What is left of a frame, and the Kinds of its components: those of each list, and each one in no list."""

    def __init__(self, stock, box, bare, statics):
        self.bare = bare
        self.statics = statics
        self.kinds = []
        for at, places in enumerate(box):
            parts = [(member, stock.parts[member]) for member in statics.present if stock.list_of[member] == at]
            self.kinds.append(Kind(parts, [stock.sections[at][place] for place in places]))
        self.lists = len(box)
        for member in statics.present:
            if stock.list_of[member] is None:
                part = stock.parts[member]
                self.kinds.append(Kind([(member, part)], [part.section]))

    def bears(self, force):
        """Return True if forces for a row are within what mixtures of the sections of each list bear."""
        borne = self.statics.borne(force)
        if borne is None:
            return False
        forces, by = borne
        if all([any([kind.is_within(place, forces, by) for place in range(kind.many)]) for kind in self.kinds]):
            return True
        is_settled = not self.statics.loose and all([kind.many == 1 for kind in self.kinds])
        return not is_settled and self.bears_mixed(forces, by)

    def bears_mixed(self, forces, by):
        """Return True if forces and what loose ones add are within what some mixtures bear.

        The unknowns are the forces of the loose components, once the divisor, and for each Kind the parts of its
        sections in the mixture.
        """
        first = len(self.statics.loose)
        many = first + sum([kind.many for kind in self.kinds])
        conditions = []
        for kind in self.kinds:
            parts = {first + place: ONE for place in range(kind.many)}
            conditions.append((numbers_at(many, parts), ONE, True))
            conditions.extend([not_below_zero(many, column) for column in parts])
            for at in kind.borne:
                conditions.extend(self.mixture(kind, at, (first, many), ratio(forces[at], by)))
            first += kind.many
        return can_be_met(conditions, many)

    def mixture(self, kind, at, columns, force):
        """Return the conditions that the force of a component is within what a mixture bears.

        The columns tell the first unknown of the Kind, and how many there are in all.
        """
        first, many = columns
        ties = [ratio(tie[at], self.statics.divisor) for tie in self.statics.ties]
        found = []
        for side, way in ((0, 1), (1, -1)):
            numbers = {column: with_sign(way, tie) for column, tie in enumerate(ties)}
            for place, pair in enumerate(kind.borne[at]):
                numbers[first + place] = negative(pair[side])
            found.append((numbers_at(many, numbers), with_sign(-way, force), False))
        return found

    def movement(self, force):
        """Return the movement of the fall of a row of forces, a list of entries.

        The unknowns are a movement, amounts of pull and push for each component, and a bound for each list. Of all
        such values those nearest to nothing are taken.
        """
        places = len(self.bare.free)
        amounts = {at: places + 2 * column for column, at in enumerate(self.statics.present)}
        bounds = places + 2 * len(amounts)
        many = bounds + self.lists
        conditions = [self.agreement(at, amounts[at], many) for at in amounts]
        conditions.extend([not_below_zero(many, column) for column in range(places, bounds)])
        spent = {place: negative(number) for place, number in force}
        for bound, kind in enumerate(self.kinds, start=bounds):
            if bound < many:
                spent[bound] = ONE
                conditions.extend(bounding(kind, bound, amounts, many))
            else:
                spent.update(prices(kind, 0, amounts))
        conditions.append((numbers_at(many, spent), negative(ONE), False))
        values = nearest(conditions, many)
        return [(place, value) for place, value in enumerate(values[:places]) if value != ZERO]

    def agreement(self, at, column, many):
        """Return the condition that the amounts of a component, by their first column, make up its strain."""
        numbers = {place: negative(number) for place, number in self.bare.rows[at]}
        numbers[column] = ONE
        numbers[column + 1] = negative(ONE)
        return (numbers_at(many, numbers), ZERO, True)


def bounding(kind, bound, amounts, many):
    """Return the conditions that a bound is at least what the amounts of a Kind come to with each section."""
    found = []
    for place in range(kind.many):
        numbers = prices(kind, place, amounts)
        numbers[bound] = negative(ONE)
        found.append((numbers_at(many, numbers), ZERO, False))
    return found


def prices(kind, place, amounts):
    """Return by what the amounts of the components of a Kind are multiplied with the section at a place."""
    found = {}
    for at in kind.borne:
        pull, push = kind.borne[at][place]
        found[amounts[at]] = pull
        found[amounts[at] + 1] = push
    return found
