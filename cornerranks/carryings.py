"""Carryings: square tables that are told by two carriers and the row of the middle."""

from cornerranks.carriers import carried, is_carrier, is_least_carrier, least_carrier
from cornerranks.errors import InvalidCarrying, InvalidLot, UnlikeSizes
from cornerranks.exact import added, columns_at, is_row, is_tuple_of
from cornerranks.inverses import check_square, inverse, solved
from cornerranks.tables import check_lot, multiplied, numbers_at, turned_over


def is_carrying(value):
    """Tell whether a value, whatever it is, is a carrying."""
    if not is_tuple_of(value, 3):
        return False
    down, middle, up = value
    return is_carrier(down) and is_row(middle, len(down)) and is_carrier(up) and len(up) == len(down)


def check_carrying(carrying):
    """Raise the error for what is no carrying."""
    if not is_carrying(carrying):
        raise InvalidCarrying(carrying)


def _check_both(carrying, other):
    """Raise the first error of two carryings that have to be of as many places."""
    check_carrying(carrying)
    check_carrying(other)
    if len(other[1]) != len(carrying[1]):
        raise UnlikeSizes()


def table_of(carrying):
    """Return the square table that a carrying tells."""
    check_carrying(carrying)
    down, middle, up = carrying
    lower, upper = carried(down), turned_over(carried(up))
    rows = []
    for place, number in enumerate(middle):
        rows.append((*lower[place][:place], number, *upper[place][place + 1:]))
    return tuple(rows)


def least_carrying(square):
    """Return a least carrying of a square table."""
    check_square(square)
    middle = tuple(square[place][place] for place in range(len(square)))
    return least_carrier(square), middle, least_carrier(turned_over(square))


def is_least(carrying):
    """Tell whether both carriers of a carrying are least."""
    check_carrying(carrying)
    return is_least_carrier(carrying[0]) and is_least_carrier(carrying[2])


def _from_behind(carrier):
    """Return the carrier that carries the same numbers with all places in the opposite order."""
    triples = []
    for outward, onward, inward in reversed(carrier):
        triples.append((inward, columns_at(onward, list(range(len(outward)))), outward))
    return tuple(triples)


def turned_round(carrying):
    """Return the carrying with its places in the opposite order."""
    check_carrying(carrying)
    down, middle, up = carrying
    return _from_behind(up), middle[::-1], _from_behind(down)


def sum_of(carrying, other):
    """Return a carrying of the sum of both tables."""
    _check_both(carrying, other)
    # Least ones of the sum never have greater sizes than both that go side by side.
    return least_carrying(added(table_of(carrying), table_of(other)))


def product_of(carrying, other):
    """Return a carrying of the product of both tables, the first one on the left."""
    _check_both(carrying, other)
    return least_carrying(multiplied(table_of(carrying), table_of(other)))


def inverse_of(carrying):
    """Return a least carrying of the inverse of the table."""
    return least_carrying(inverse(table_of(carrying)))


def solved_by(carrying, row):
    """Return the row x for which the table times x is the row."""
    return solved(table_of(carrying), row)


def part_of(carrying, places):
    """Return a carrying of the part of the table on these places."""
    check_carrying(carrying)
    check_lot(places, len(carrying[1]))
    if not places:
        raise InvalidLot(places)
    return least_carrying(numbers_at(table_of(carrying), places, places))
