"""Square tables: determinants, inverses, and rows that a table brings to others."""

from cornerranks.errors import InvalidRow, InvalidSquare, NotRegular
from cornerranks.exact import (
    NIL, fraction, is_fraction, is_tuple_of, null_rows, reduced, row_rank, swept, unit_row, whole_rows)
from cornerranks.tables import is_table


def is_square(value):
    """Tell whether a value, whatever it is, is a square table."""
    return is_table(value) and len(value) == len(value[0])


def check_square(square):
    """Raise the error for what is no square table."""
    if not is_square(square):
        raise InvalidSquare(square)


def check_row(row, many):
    """Raise the error for what is no row of so many."""
    if not is_tuple_of(row, many):
        raise InvalidRow(None)
    for index, number in enumerate(row):
        if not is_fraction(number):
            raise InvalidRow(index)


def check_regular(square):
    """Raise the error for a singular table; one of no rows is regular."""
    if row_rank(square) < len(square):
        raise NotRegular()


def is_regular(square):
    """Tell whether a square table has an inverse."""
    check_square(square)
    return row_rank(square) == len(square)


def determinant(square):
    """Return the determinant of a square table."""
    check_square(square)
    wholes, scale = whole_rows(square)
    _, places, lead = swept(wholes, len(square))
    if len(places) < len(square):
        return NIL
    return fraction(lead, scale)


def _ends_swept(square, ends):
    """Return the ends of the rows, row k having ends[k] behind it, when the table is swept to 1."""
    many = len(square)
    joined = [row + end for row, end in zip(square, ends)]
    rows, places = reduced(joined, many)
    if len(places) < many:
        raise NotRegular()
    return tuple(row[many:] for row in rows)


def inverse(square):
    """Return the inverse of a square table."""
    check_square(square)
    many = len(square)
    return _ends_swept(square, [unit_row(many, k) for k in range(many)])


def solved(square, row):
    """Return the row x for which the table times x is the row."""
    check_square(square)
    check_row(row, len(square))
    ends = _ends_swept(square, [(number,) for number in row])
    return tuple(end[0] for end in ends)


def null_row(square):
    """Return a row other than noughts that the table brings to noughts; None."""
    check_square(square)
    found = null_rows(square, len(square))
    return found[0] if found else None
