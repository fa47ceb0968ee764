"""Tables of fractions, their products, their parts and ranks."""

from cornerranks.errors import InvalidLot, InvalidNumber, InvalidTable, UnlikeSizes
from cornerranks.exact import columns_at, free_places, is_between, is_row, is_tuple_of, reduced, row_rank, times

MOST = 6


def is_table(value):
    """Tell whether a value, whatever it is, is a table."""
    if not isinstance(value, tuple) or not 1 <= len(value) <= MOST:
        return False
    first = value[0]
    if not isinstance(first, tuple) or not 1 <= len(first) <= MOST:
        return False
    return all(is_row(row, len(first)) for row in value)


def check_table(table):
    """Raise the error for what is no table."""
    if not is_table(table):
        raise InvalidTable(table)


def is_lot(value, many):
    """Tell whether a value, whatever it is, is a lot of so many."""
    if not isinstance(value, tuple):
        return False
    least = 0
    for index in value:
        if not is_between(index, least, many - 1):
            return False
        least = index + 1
    return True


def check_lot(lot, many):
    """Raise the error for what is no lot of so many."""
    if not is_lot(lot, many):
        raise InvalidLot(lot)


def check_number(number, least, most):
    """Raise the error for what is no whole number from `least` up to `most`."""
    if not is_between(number, least, most):
        raise InvalidNumber(number)


def are_small(value, many):
    """Tell whether a value is a tuple of so many whole numbers from 0 to 6, as ranks and sizes are."""
    return is_tuple_of(value, many) and all(is_between(number, 0, MOST) for number in value)


def beside(lot, many):
    """Return the lot of all indexes below `many` that a lot does not have."""
    return tuple(index for index in range(many) if index not in lot)


def check_part(table, rows, columns):
    """Raise the first error of a table and of the lots of a part of it."""
    check_table(table)
    check_lot(rows, len(table))
    check_lot(columns, len(table[0]))


def numbers_at(table, rows, columns):
    """Return the part of a table; nothing is checked, and lists of indexes will do."""
    return tuple(tuple(table[i][j] for j in columns) for i in rows)


def turned_over(table):
    """Return the table with its columns as rows."""
    check_table(table)
    return columns_at(table, list(range(len(table[0]))))


def multiplied(table, other):
    """Return the product of two tables; nothing is checked."""
    return times(table, other, len(other[0]))


def product(table, other):
    """Return the product of two tables."""
    check_table(table)
    check_table(other)
    if len(other) != len(table[0]):
        raise UnlikeSizes()
    return multiplied(table, other)


def part(table, rows, columns):
    """Return the part of a table with these rows and columns, as a tuple of rows."""
    check_part(table, rows, columns)
    return numbers_at(table, rows, columns)


def rank_of(table):
    """Return the rank of a table."""
    check_table(table)
    return row_rank(table)


def part_rank(table, rows, columns):
    """Return the rank of the part of a table with these rows and columns."""
    check_part(table, rows, columns)
    return row_rank(numbers_at(table, rows, columns))


def nullity(table, rows, columns):
    """Return the number of columns of a part less its rank."""
    check_part(table, rows, columns)
    return len(columns) - row_rank(numbers_at(table, rows, columns))


def rank_pair(table):
    """Return two tables with this product that have the rank between them; None for noughts alone."""
    check_table(table)
    rows, places = reduced(table, len(table[0]))
    if not places:
        return None
    # Each column of the table is the sum of those at the places, times what the swept rows have in it.
    return numbers_at(table, list(range(len(table))), places), rows


def regular_part(table, rows, columns):
    """Return two lots within rows and columns whose part is regular and of the rank of theirs."""
    check_part(table, rows, columns)
    numbers = numbers_at(table, rows, columns)
    across = free_places(numbers, len(columns))
    down = free_places(columns_at(numbers, across), len(rows))
    return tuple(rows[k] for k in down), tuple(columns[k] for k in across)
