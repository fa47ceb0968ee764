"""What is left of a table behind a part of it, a column times a row more, and stairs pairs."""

from cornerranks.errors import InvalidLot, NotRegular
from cornerranks.exact import NIL, added, columns_at, negated, outer, over, reduced, times
from cornerranks.inverses import check_row, check_square
from cornerranks.tables import beside, check_lot, check_table, numbers_at


def _check_some_left(lot, many):
    """Raise the error for what is no lot of so many, or has all of them."""
    check_lot(lot, many)
    if len(lot) == many:
        raise InvalidLot(lot)


def _left(table, rows, columns):
    """Return what is left of a table, () if no rows are left; only whether the part is regular is checked."""
    many = len(columns)
    down, across = beside(rows, len(table)), beside(columns, len(table[0]))
    cleared, places = reduced(numbers_at(table, rows, columns + across), many)
    if len(places) < many:
        raise NotRegular()
    # Behind the part, which is swept to 1, stands its inverse times the numbers beside it.
    less = [tuple(negated(number) for number in row[many:]) for row in cleared]
    taken = times(numbers_at(table, down, columns), less, len(across))
    return added(numbers_at(table, down, across), taken)


def left_of(table, rows, columns):
    """Return what is left of a table behind its part with these rows and columns."""
    check_table(table)
    _check_some_left(rows, len(table))
    _check_some_left(columns, len(table[0]))
    if len(columns) != len(rows):
        raise InvalidLot(columns)
    return _left(table, rows, columns)


def stairs_pair(square):
    """Return the two tables (L, U) with this product, L with 1 along the middle; None."""
    check_square(square)
    columns, rows = [], []
    rest = square
    for place in range(len(square)):
        pivot = rest[0][0]
        if pivot == NIL:
            return None
        noughts = (NIL,) * place
        columns.append(noughts + tuple(over(row[0], pivot) for row in rest))
        rows.append(noughts + rest[0])
        rest = _left(rest, (0,), (0,))
    return columns_at(columns, list(range(len(square)))), tuple(rows)


def raised(table, column, row):
    """Return the table with the products of a column and a row more."""
    check_table(table)
    check_row(column, len(table))
    check_row(row, len(table[0]))
    return added(table, outer(column, row))
