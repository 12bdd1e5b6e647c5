"""Exchanging variables of a table until all conditions are met, or one cannot be."""


def conflict(table):
    """Exchange until all conditions are met and return None, or return the row of one that cannot be met."""
    at = unmet_equation(table)
    if at is not None:
        return at
    at = first_unmet(table)
    while at is not None:
        column = raising_column(table, at)
        if column is None:
            return at
        table.exchange(at, column)
        at = first_unmet(table)
    return None


def unmet_equation(table):
    """Turn the slacks of equations into columns; return the row of an equation that cannot be met, or None."""
    # A row that is left behind has only columns that are closed, and so it stays as it is.
    for at, exactly in enumerate(table.exact):
        column = last_free_column(table, at) if exactly else None
        if column is not None:
            table.exchange(at, column)
        elif exactly and table.constant(at) != 0:
            return at
    return None


def last_free_column(table, at):
    """Return the last column of an unknown on which a row depends, or None."""
    for column in reversed(range(len(table.columns))):
        if table.is_free(column) and table.rows[at][column] != 0:
            return column
    return None


def first_unmet(table):
    """Return the row of the slack below 0 with the least label, or None."""
    unmet = [at for at, label in enumerate(table.heads) if label >= 0 and table.constant(at) < 0]
    return min(unmet, key=lambda place: table.heads[place], default=None)


def raising_column(table, at):
    """Return the column with the least label whose variable can raise that of a row, or None."""
    # Always to choose the least labels keeps the exchanges from going round in circles (Bland's rule).
    row = table.rows[at]
    able = []
    for column in range(len(table.columns)):
        if row[column] > 0 or (row[column] < 0 and table.is_free(column)):
            if not table.is_closed(column):
                able.append(column)
    return min(able, key=lambda place: table.columns[place], default=None)
