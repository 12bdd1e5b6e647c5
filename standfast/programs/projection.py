"""Whether conditions can be met, and what refutes them otherwise."""

from standfast.programs.meeting import conflict
from standfast.programs.table import Table
from standfast.ratios import ZERO, ratio, times


def can_be_met(conditions, unknowns):
    """Return True if some values meet the conditions."""
    return conflict(Table(conditions, unknowns)) is None


def refutation(conditions, unknowns):
    """Return a ratio for each condition that refutes them all, or None if they can be met."""
    table = Table(conditions, unknowns)
    at = conflict(table)
    return None if at is None else multipliers(table, at)


def multipliers(table, at):
    """Return what the row of a slack that cannot reach 0 tells of the conditions."""
    # The row says that its slack and those of the columns, multiplied by numbers, make up a constant for
    # any unknowns. Slacks are bounds minus sums: so the sums cancel, and the bounds leave the constant.
    constant = table.constant(at)
    found = [ZERO] * len(table.factors)
    head = table.heads[at]
    found[head] = times(ratio(-table.divisor, constant), table.factors[head])
    for label, number in zip(table.columns, table.rows[at]):
        if label >= 0:
            found[label] = times(ratio(number, constant), table.factors[label])
    return tuple(found)
