"""Shapes of the inverse of a table, told by ranks of the table: noughts, widths and half pairs."""

from cornerranks.exact import NIL, outer, over, row_rank
from cornerranks.inverses import check_regular, check_row, check_square
from cornerranks.tables import beside, check_lot, numbers_at, turned_over


def width_below(square):
    """Return the least number more than which below the middle all numbers are 0."""
    check_square(square)
    many = len(square)
    return max([0] + [i - j for i in range(many) for j in range(i) if square[i][j] != NIL])


def width_above(square):
    """Return the least number more than which above the middle all numbers are 0."""
    check_square(square)
    return width_below(turned_over(square))


def _bounds_inverse_below(square, width):
    """Tell whether the inverse has a width below of at most this."""
    for k in range(len(square) - width - 1):
        if row_rank([row[:k + width + 1] for row in square[k + 1:]]) != width:
            return False
    return True


def inverse_width_below(square):
    """Return the width below of the inverse of a table."""
    check_square(square)
    check_regular(square)
    return min([width for width in range(len(square)) if _bounds_inverse_below(square, width)])


def inverse_width_above(square):
    """Return the width above of the inverse of a table."""
    check_square(square)
    return inverse_width_below(turned_over(square))


def has_noughts(square, rows, columns):
    """Tell whether the part of the inverse with these rows and columns is nought."""
    check_square(square)
    many = len(square)
    check_lot(rows, many)
    check_lot(columns, many)
    check_regular(square)
    rank = row_rank(numbers_at(square, beside(columns, many), beside(rows, many)))
    return rank == many - len(rows) - len(columns)


def _is_half(square, row, other):
    """Tell whether the rows are a half pair; nothing is checked."""
    products = outer(row, other)
    return all(square[i][:i + 1] == products[i][:i + 1] for i in range(len(square)))


def half_pair(square):
    """Return a half pair of a regular table; None."""
    check_square(square)
    check_regular(square)
    corner = square[-1][0]
    if corner == NIL:
        return None
    first = tuple(line[0] for line in square)
    last = tuple(over(number, corner) for number in square[-1])
    # A regular table that has any half pair has this one.
    if _is_half(square, first, last):
        return first, last
    return None


def is_half_pair(square, row, other):
    """Tell whether the rows are a half pair of a square table, regular or not."""
    check_square(square)
    check_row(row, len(square))
    check_row(other, len(square))
    return _is_half(square, row, other)
