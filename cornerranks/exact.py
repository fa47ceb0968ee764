"""Exact numbers: fractions, rows of them, and sweeping, on which all ranks and inverses rest."""

from math import gcd, lcm

NIL = (0, 1)
ONE = (1, 1)


def is_whole(value):
    """Tell whether a value is a whole number; True and False are none."""
    return isinstance(value, int) and not isinstance(value, bool)


def is_between(value, least, most):
    """Tell whether a value is a whole number from `least` up to `most`."""
    return is_whole(value) and least <= value <= most


def is_tuple_of(value, many):
    """Tell whether a value is a tuple of so many elements."""
    return isinstance(value, tuple) and len(value) == many


def is_fraction(value):
    """Tell whether a value is a fraction."""
    if not is_tuple_of(value, 2):
        return False
    top, bottom = value
    return is_whole(top) and is_whole(bottom) and bottom > 0 and gcd(top, bottom) == 1


def is_row(value, many):
    """Tell whether a value is a row of so many."""
    return is_tuple_of(value, many) and all(is_fraction(number) for number in value)


def fraction(top, bottom):
    """Return the number top / bottom; bottom is not 0."""
    shared = gcd(top, bottom)
    if bottom < 0:
        shared = -shared
    return (top // shared, bottom // shared)


def negated(number):
    """Return the number with the other sign."""
    return (-number[0], number[1])


def plus(number, other):
    """Return the sum of two numbers."""
    return fraction(number[0] * other[1] + other[0] * number[1], number[1] * other[1])


def multiple(number, other):
    """Return the product of two numbers."""
    return fraction(number[0] * other[0], number[1] * other[1])


def over(number, other):
    """Return the number divided by another one, which is not 0."""
    return fraction(number[0] * other[1], number[1] * other[0])


def dot(row, other):
    """Return the sum of the products of the numbers at like places."""
    shared = 1
    for number, mate in zip(row, other):
        shared = lcm(shared, number[1] * mate[1])
    top = 0
    for (one, many), (two, much) in zip(row, other):
        top = top + one * two * (shared // (many * much))
    return fraction(top, shared)


def unit_row(many, place):
    """Return the row of so many with 1 at the place, 0 beside."""
    return tuple(ONE if k == place else NIL for k in range(many))


def columns_at(rows, places):
    """Return the columns of the rows at these places, as rows."""
    return tuple(tuple(row[place] for row in rows) for place in places)


def applied(rows, row):
    """Return the sums of the products of each of the rows and one row."""
    return tuple(dot(line, row) for line in rows)


def times(rows, other, wide):
    """Return the product of rows and others of so many columns, which no rows would not tell."""
    columns = columns_at(other, list(range(wide)))
    return tuple(applied(columns, row) for row in rows)


def added(rows, other):
    """Return the sums of the numbers at like places of two tables."""
    sums = []
    for row, mate in zip(rows, other):
        sums.append(tuple([plus(one, two) for one, two in zip(row, mate)]))
    return tuple(sums)


def outer(column, row):
    """Return the table of the products of each number of a column and each one of a row."""
    return times([(number,) for number in column], (row,), len(row))


def whole_rows(rows):
    """Return (rows, scale): each row times the least number that makes it whole, these multiplied."""
    wholes = []
    scale = 1
    for row in rows:
        shared = 1
        for number in row:
            shared = lcm(shared, number[1])
        wholes.append([top * (shared // bottom) for top, bottom in row])
        scale = scale * shared
    return wholes, scale


def _first_row(rows, top, place):
    """Return the index of the first row, from `top` on, that is not 0 at the place; None."""
    for index in range(top, len(rows)):
        if rows[index][place] != 0:
            return index
    return None


def _moved_up(rows, index, top):
    """Return the rows with row `index` in the place of row `top`, and this one in its own."""
    moved = list(rows)
    moved[top] = rows[index]
    if index != top:
        # Two rows that change places turn the sign of the determinant, and so does this minus.
        moved[index] = [-number for number in rows[top]]
    return moved


def _less_multiple(row, chosen, place, lead):
    """Return the row times what `chosen` has at the place, less `chosen` times its own, over `lead`."""
    pivot, factor = chosen[place], row[place]
    return [(pivot * number - factor * mate) // lead for number, mate in zip(row, chosen)]


def _cleared(rows, top, place, lead):
    """Return the rows with 0 at the place in each row but row `top`."""
    cleared = []
    for index, row in enumerate(rows):
        if index == top:
            cleared.append(row)
        else:
            # All these numbers are determinants of parts times `lead`, so it divides them (Bareiss).
            cleared.append(_less_multiple(row, rows[top], place, lead))
    return cleared


def swept(rows, width):
    """Sweep rows of whole numbers over their first `width` places: (rows, places, lead).

    The places are those whose columns are no sums of multiples of the columns ahead of them;
    at places[k] row k then has `lead`, each other row 0. The rows from len(places) on have 0 at
    all of the first `width` places. If all rows have a place, `lead` is the determinant of the
    columns at the places.
    """
    places = []
    lead = 1
    for place in range(width):
        top = len(places)
        index = _first_row(rows, top, place)
        if index is not None:
            rows = _cleared(_moved_up(rows, index, top), top, place, lead)
            lead = rows[top][place]
            places.append(place)
    return rows, places, lead


def free_places(rows, width):
    """Return the places whose columns are no sums of multiples of the columns ahead of them."""
    return swept(whole_rows(rows)[0], width)[1]


def reduced(rows, width):
    """Return (rows, places): of rows swept over `width` places those with a place, with 1 there."""
    wholes, places, lead = swept(whole_rows(rows)[0], width)
    kept = wholes[:len(places)]
    return tuple(tuple(fraction(number, lead) for number in row) for row in kept), places


def null_rows(rows, width):
    """Return free rows of `width` numbers whose products with each of the rows are 0, as many as there are.

    Each belongs to a column that is a sum of multiples of those ahead of it; all others are their sums.
    """
    lines, places = reduced(rows, width)
    found = []
    for free in range(width):
        if free not in places:
            numbers = list(unit_row(width, free))
            for place, line in zip(places, lines):
                numbers[place] = negated(line[free])
            found.append(tuple(numbers))
    return found


def row_rank(rows):
    """Return the greatest number of rows that are free; 0 if there are no numbers."""
    if not rows:
        return 0
    return len(free_places(rows, len(rows[0])))
