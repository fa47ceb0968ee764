"""Stairs of told numbers, the ranks of all tables that fill them, and bands that are filled."""

from cornerranks.errors import InvalidBand, InvalidStairs
from cornerranks.exact import (
    NIL, ONE, applied, dot, is_fraction, is_row, is_tuple_of, multiple, over, reduced, row_rank, times, unit_row)
from cornerranks.inverses import check_regular, determinant, inverse
from cornerranks.tables import MOST, check_number, is_table, numbers_at


def _has_rows(value):
    """Tell whether a value is a tuple of as many elements as stairs may have."""
    return isinstance(value, tuple) and 1 <= len(value) <= MOST


def _wrong_row(rows, size):
    """Return the index of the first row that is not as it has to be behind the one ahead of it; None."""
    least = 0
    for index, row in enumerate(rows):
        if not isinstance(row, tuple) or not least <= len(row) <= size or not is_row(row, len(row)):
            return index
        least = len(row)
    return None


def are_stairs(value, size):
    """Tell whether a value, whatever it is, are stairs of so many columns."""
    return _has_rows(value) and _wrong_row(value, size) is None


def _check_stairs(size, stairs):
    """Raise the first error of a size and of stairs of so many columns."""
    check_number(size, 1, MOST)
    if not _has_rows(stairs):
        raise InvalidStairs(None)
    index = _wrong_row(stairs, size)
    if index is not None:
        raise InvalidStairs(index)


def is_stairs(size, value):
    """Tell whether a value, whatever it is, are stairs of so many columns."""
    check_number(size, 1, MOST)
    return are_stairs(value, size)


def fills(table, size, stairs):
    """Tell whether a value, whatever it is, is a filling of stairs of so many columns."""
    if not is_table(table) or len(table) != len(stairs) or len(table[0]) != size:
        return False
    return all([row[:len(told)] == told for row, told in zip(table, stairs)])


def is_filling(size, stairs, value):
    """Tell whether a value, whatever it is, is a filling of the stairs."""
    _check_stairs(size, stairs)
    return fills(value, size, stairs)


def _told_rank(stairs, top, wide):
    """Return the rank of the first `wide` columns of the rows from `top` on, which all tell so many."""
    return row_rank([row[:wide] for row in stairs[top:]])


def _brings_more(stairs, index):
    """Tell whether a row makes the rank greater by one in each filling."""
    wide = len(stairs[index])
    return _told_rank(stairs, index, wide) > _told_rank(stairs, index + 1, wide)


def needed_rows(stairs):
    """Return the indexes of the rows that make the rank greater by one in each filling."""
    return [index for index in range(len(stairs)) if _brings_more(stairs, index)]


def bound_at(size, stairs, index):
    """Return what a row tells: a number that the rank of no filling is above."""
    wide = len(stairs[index])
    return index + size - wide + _told_rank(stairs, index, wide)


def least_rank(size, stairs):
    """Return the least rank of all fillings."""
    _check_stairs(size, stairs)
    return len(needed_rows(stairs))


def greatest_rank(size, stairs):
    """Return the greatest rank of all fillings."""
    _check_stairs(size, stairs)
    many = len(stairs)
    return min([many, size] + [bound_at(size, stairs, index) for index in range(many)])


def _bound_row(told, behind, size):
    """Return a row that begins as told: a sum of multiples of the rows behind, if one begins so."""
    wide = len(told)
    lines, places = reduced(behind, wide)
    row = times((tuple(told[place] for place in places),), lines, size)[0]
    if row[:wide] == told:
        return row
    return told + (NIL,) * (size - wide)


def _free_row(told, behind, size):
    """Return a row that begins as told: no sum of multiples of the rows behind, if one is none."""
    rest = size - len(told)
    plain = told + (NIL,) * rest
    rank = row_rank(behind)
    # If this one is such a sum, one with a 1 more is none exactly if the 1 alone is none.
    for row in [plain] + [told + unit_row(rest, place) for place in range(rest)]:
        if row_rank((row, *behind)) > rank:
            return row
    return plain


def least_filling(size, stairs):
    """Return a filling of the least rank."""
    _check_stairs(size, stairs)
    rows = ()
    for told in reversed(stairs):
        rows = (_bound_row(told, rows, size), *rows)
    return rows


def greatest_filling(size, stairs):
    """Return a filling of the greatest rank."""
    _check_stairs(size, stairs)
    rows = ()
    for told in reversed(stairs):
        rows = (_free_row(told, rows, size), *rows)
    return rows


def filling_of_rank(size, stairs, rank):
    """Return a filling of this rank; None if there is none."""
    _check_stairs(size, stairs)
    check_number(rank, 0, MOST)
    least, greatest = least_filling(size, stairs), greatest_filling(size, stairs)
    # From the one to the other row by row the rank moves by 1 at most, so each between them comes.
    for count in range(len(stairs) + 1):
        filling = greatest[:count] + least[count:]
        if row_rank(filling) == rank:
            return filling
    return None


def has_one_least(size, stairs):
    """Tell whether just one filling has the least rank."""
    _check_stairs(size, stairs)
    widths = sorted(set([len(row) for row in stairs] + [size]))
    tops = [len([row for row in stairs if len(row) < wide]) for wide in widths]
    ranks = [_told_rank(stairs, top, wide) for top, wide in zip(tops, widths)]
    shared = [_told_rank(stairs, top, wide) for top, wide in zip(tops[1:], widths)]
    return all([rank == ranks[0] for rank in ranks + shared])


def _is_told_near(rows, width):
    """Tell whether just the places up to so far from the middle have fractions, all others None."""
    for i, row in enumerate(rows):
        for j, number in enumerate(row):
            right = is_fraction(number) if abs(i - j) <= width else number is None
            if not right:
                return False
    return True


def is_band(value):
    """Tell whether a value, whatever it is, is a band."""
    if not _has_rows(value):
        return False
    many = len(value)
    if not all(is_tuple_of(row, many) for row in value):
        return False
    return any([_is_told_near(value, width) for width in range(many)])


def _part_along(band, begin, count):
    """Return the part of the `count` rows and columns from an index on."""
    lot = list(range(begin, begin + count))
    return numbers_at(band, lot, lot)


def _checked_parts(band):
    """Return the blocks and the overlaps of a band, all of them regular; raise the first error."""
    if not is_band(band):
        raise InvalidBand(band)
    width = len([number for number in band[0] if number is not None]) - 1
    many = len(band) - width
    blocks = [_part_along(band, begin, width + 1) for begin in range(many)]
    overlaps = [_part_along(band, begin, width) for begin in range(1, many)]
    for square in blocks + overlaps:
        check_regular(square)
    return blocks, overlaps


def _settled(row, lot, column, back):
    """Return the number of a row and a column that both meet a regular part, whose inverse is `back`."""
    return dot([row[k] for k in lot], applied(back, [column[k] for k in lot]))


def band_filling(band):
    """Return the regular filling of a band whose inverse is 0 where nothing was told."""
    overlaps = _checked_parts(band)[1]
    many = len(band)
    width = many - len(overlaps) - 1
    backs = [inverse(square) if square else () for square in overlaps]
    rows = [list(row) for row in band]
    for apart in range(width + 1, many):
        for low in range(apart, many):
            # The overlap next to `low` is told far enough from both places.
            lot, high = list(range(low - width, low)), low - apart
            back = backs[low - width - 1]
            across = [rows[k][high] for k in range(many)]
            down = [rows[k][low] for k in range(many)]
            rows[low][high] = _settled(rows[low], lot, across, back)
            rows[high][low] = _settled(rows[high], lot, down, back)
    return tuple(tuple(row) for row in rows)


def band_determinant(band):
    """Return the determinant of the filling of a band."""
    blocks, overlaps = _checked_parts(band)
    found = ONE
    for square in blocks:
        found = multiple(found, determinant(square))
    for square in overlaps:
        if square:
            found = over(found, determinant(square))
    return found
