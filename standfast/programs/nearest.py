"""The values nearest to nothing that meet conditions, and greatest values."""

from standfast.programs.meeting import conflict
from standfast.programs.table import Table, label_of
from standfast.ratios import ZERO, ratio


def nearest(conditions, unknowns):
    """Return the values nearest to nothing as a tuple, or None if the conditions cannot be met."""
    table = met_table(conditions, unknowns)
    if table is None:
        return None
    values = []
    for unknown in range(unknowns):
        values.append(settled(table, label_of(unknown)))
    return tuple(values)


def greatest(conditions, unknowns):
    """Return the greatest value of the first unknown, or None if there is none."""
    table = met_table(conditions, unknowns)
    label = label_of(0)
    if label in table.columns:
        column = table.columns.index(label)
        stop = stopping_row(table, column, 1)
        if stop is None:
            return None
        table.exchange(stop, column)
    at = table.heads.index(label)
    column = moving_column(table, at, 1)
    while column is not None:
        stop = stopping_row(table, column, way_of(table, at, column, 1))
        if stop is None:
            return None
        table.exchange(stop, column)
        column = moving_column(table, at, 1)
    return ratio(table.constant(at), table.divisor)


def met_table(conditions, unknowns):
    """Return a table whose variables meet the conditions, without closed columns, or None."""
    table = Table(conditions, unknowns)
    if conflict(table) is not None:
        return None
    table.keep_columns([column for column in range(len(table.columns)) if not table.is_closed(column)])
    return table


def settled(table, label):
    """Bring an unknown as near to 0 as it can come, keep it there for good, and return its value."""
    while label in table.heads:
        at = table.heads.index(label)
        constant = table.constant(at)
        column = moving_column(table, at, sign_of(-constant))
        if column is None:
            return left_there(table, at)
        table.exchange(row_to_exchange(table, at, column), column)
    own = table.columns.index(label)
    table.keep_columns([place for place in range(len(table.columns)) if place != own])
    return ZERO


def left_there(table, at):
    """Keep the variable of a row at its value, and return it."""
    value = ratio(table.constant(at), table.divisor)
    row = table.rows[at]
    # Each column that is left in the row could only move the variable away from 0.
    table.keep_columns([column for column in range(len(table.columns)) if row[column] == 0])
    table.drop_row(at)
    return value


def row_to_exchange(table, at, column):
    """Return the row of a variable that comes to 0, if a column moves the unknown of a row towards 0."""
    constant = table.constant(at)
    stop = stopping_row(table, column, way_of(table, at, column, sign_of(-constant)))
    if stop is None:
        return at
    mine = abs(constant) * abs(table.rows[stop][column])
    its = table.constant(stop) * abs(table.rows[at][column])
    return at if mine <= its else stop


def moving_column(table, at, wish):
    """Return the column with the least label that can move the variable of a row in a direction, or None.

    The direction is 1 or -1, or 0 for any. Columns of unknowns go both ways, others only up.
    """
    row = table.rows[at]
    able = []
    for column in range(len(table.columns)):
        if row[column] != 0 and (table.is_free(column) or sign_of(row[column]) * wish >= 0):
            able.append(column)
    return min(able, key=lambda place: table.columns[place], default=None)


def way_of(table, at, column, wish):
    """Return the direction in which a column goes to move the variable of a row in a direction."""
    return sign_of(table.rows[at][column]) * wish if table.is_free(column) else 1


def stopping_row(table, column, way):
    """Return the row of the slack that comes to 0 first if a column goes in a direction, or None."""
    found = None
    for at, row in enumerate(table.rows):
        if table.heads[at] >= 0 and row[column] * way < 0:
            if found is None or stops_before(table, at, found, column):
                found = at
    return found


def stops_before(table, first, second, column):
    """Return True if the first row's slack comes to 0 earlier than the second one's, or has the lesser label."""
    mine = table.constant(first) * abs(table.rows[second][column])
    its = table.constant(second) * abs(table.rows[first][column])
    return mine < its or (mine == its and table.heads[first] < table.heads[second])


def sign_of(integer):
    """Return -1, 0 or 1."""
    if integer < 0:
        return -1
    return 1 if integer > 0 else 0
