"""Corner ranks: those of the low and of the high parts at the cuts of a square table."""

from cornerranks.errors import InvalidRanks
from cornerranks.exact import NIL, ONE, columns_at, is_between, is_tuple_of, row_rank
from cornerranks.inverses import check_square
from cornerranks.tables import MOST, multiplied


def low_ranks(square):
    """Return the ranks of the low parts, cut by cut."""
    check_square(square)
    return tuple(row_rank([row[:cut] for row in square[cut:]]) for cut in range(1, len(square)))


def high_ranks(square):
    """Return the ranks of the high parts, cut by cut."""
    check_square(square)
    return tuple(row_rank([row[cut:] for row in square[:cut]]) for cut in range(1, len(square)))


def _check_numbers(ranks):
    """Raise the error for the first of the ranks that is no whole number from 0 to 6."""
    for index, number in enumerate(ranks):
        if not is_between(number, 0, MOST):
            raise InvalidRanks(index)


def check_ranks(lows, highs):
    """Raise the first error of two rows of ranks."""
    if not isinstance(lows, tuple) or len(lows) >= MOST:
        raise InvalidRanks(None)
    _check_numbers(lows)
    if not is_tuple_of(highs, len(lows)):
        raise InvalidRanks(None)
    _check_numbers(highs)


def _steps(ranks):
    """Return by how much the ranks rise at each place, with 0 ahead of them and behind."""
    return [after - before for before, after in zip((0, *ranks), (*ranks, 0))]


def _are_stepwise(ranks):
    """Tell whether the ranks go from 0 to 0 by steps of at most 1."""
    return all(-1 <= step <= 1 for step in _steps(ranks))


def are_ranks(lows, highs):
    """Tell whether these are the low and the high ranks of some square table."""
    check_ranks(lows, highs)
    return _are_stepwise(lows) and _are_stepwise(highs)


def _lower_table(ranks):
    """Return a table with 1 along the middle, 0 above it, and these low ranks, all stepwise."""
    many = len(ranks) + 1
    rows = [[ONE if i == j else NIL for j in range(many)] for i in range(many)]
    begun = []
    for place, step in enumerate(_steps(ranks)):
        # A 1 in row i and column j raises the ranks at the cuts from j + 1 to i.
        if step > 0:
            begun.append(place)
        if step < 0:
            rows[place][begun.pop()] = ONE
    return tuple(tuple(row) for row in rows)


def table_with(lows, highs):
    """Return a regular square table with these low and high ranks; None if there is none."""
    if not are_ranks(lows, highs):
        return None
    upper = columns_at(_lower_table(highs), list(range(len(highs) + 1)))
    # Low parts are those of the first factor times a regular corner, high parts likewise.
    return multiplied(_lower_table(lows), upper)
