"""Certificates: claims, of two that exclude one another the one that is so, with papers for the checker."""

from cornerranks.carriers import bases_between, carried, carrier_with, is_least_carrier, made_least
from cornerranks.corners import low_ranks, table_with
from cornerranks.exact import NIL, columns_at, dot, null_rows, reduced
from cornerranks.fillings import bound_at, filling_of_rank, least_rank, needed_rows
from cornerranks.inverses import inverse, is_regular, null_row
from cornerranks.shapes import half_pair, has_noughts
from cornerranks.tables import MOST, check_number, numbers_at, part_rank, regular_part
from cornerranks.webs import web_break


def _factors(numbers, wide, count):
    """Return two that have rows of so many as product, with `count` between them, from their rank on."""
    lines, places = reduced(numbers, wide)
    more = count - len(places)
    left = tuple(tuple(row[place] for place in places) + (NIL,) * more for row in numbers)
    return left, lines + ((NIL,) * wide,) * more


def certify_rank(table, rows, columns, bound):
    """Certify that the rank of a part is up to the bound, or from one more on."""
    rank = part_rank(table, rows, columns)
    check_number(bound, 0, MOST)
    if rank <= bound:
        paper = _factors(numbers_at(table, rows, columns), len(columns), bound)
        return ("rank up to", table, rows, columns, bound), paper
    down = regular_part(table, rows, columns)[0]
    # The rows of a regular part are free, and so are the first ones of them.
    return ("rank from", table, rows, columns, bound + 1), regular_part(table, down[:bound + 1], columns)


def certify_regular(square):
    """Certify that a square table is regular, or singular."""
    if is_regular(square):
        return ("regular", square), inverse(square)
    return ("singular", square), null_row(square)


def certify_ranks(lows, highs):
    """Certify that some table has these low and high ranks, or none."""
    table = table_with(lows, highs)
    if table is None:
        return ("no table", lows, highs), ()
    return ("some table", lows, highs), table


def certify_sizes(square, sizes):
    """Certify that some carrier of these sizes carries the numbers below the middle, or none."""
    carrier = carrier_with(square, sizes)
    if carrier is not None:
        return ("carried", square, sizes), carrier
    wanting = [rank > size for rank, size in zip(low_ranks(square), sizes)]
    cut = wanting.index(True) + 1
    behind, ahead = tuple(range(cut, len(square))), tuple(range(cut))
    return ("not carried", square, sizes), (cut, *regular_part(square, behind, ahead))


def _unlike_place(rows, others):
    """Return the first place at which two square tables are unlike."""
    many = len(rows)
    return min([(i, j) for i in range(many) for j in range(many) if rows[i][j] != others[i][j]])


def certify_bases(carrier, other):
    """Certify that bases lead a least carrier to another one, or that they carry unlike numbers."""
    bases = bases_between(carrier, other)
    if bases is not None:
        return ("one in two bases", carrier, other), bases
    return ("unlike numbers", carrier, other), _unlike_place(carried(carrier), carried(other))


def certify_least(carrier):
    """Certify that a carrier is least, or that it is wide."""
    if is_least_carrier(carrier):
        return ("least", carrier), ()
    return ("wide", carrier), made_least(carrier)


def certify_noughts(square, rows, columns):
    """Certify that the part of the inverse with these rows and columns is nought, or that it is not."""
    nought = has_noughts(square, rows, columns)
    found = columns_at(inverse(square), columns)
    if nought:
        return ("noughts", square, rows, columns), found
    rest = [(place, row) for place, row in zip(columns, found) if any([row[i] != NIL for i in rows])]
    return ("no noughts", square, rows, columns), rest[0]


def certify_half_pair(square):
    """Certify that a regular table has a half pair, or none."""
    pair = half_pair(square)
    if pair is None:
        return ("no half pair", square), ()
    return ("half pair", square), pair


def certify_web(square, web):
    """Certify that the inverse is 0 at all unlike places that are not tied, or that it is not."""
    broken = web_break(square, web)
    if broken is None:
        return ("web", square, web), ()
    return ("web broken", square, web), broken


def _needing_row(stairs, index):
    """Return a row whose product is not 0 with this row alone of the rows from it on."""
    told = stairs[index]
    wide = len(told)
    rows = null_rows([row[:wide] for row in stairs[index + 1:]], wide)
    return [row for row in rows if dot(row, told) != NIL][0]


def _bound_paper(size, stairs, bound):
    """Return the paper that no filling has a greater rank."""
    if bound >= min(size, len(stairs)):
        return ()
    return (min([index for index in range(len(stairs)) if bound_at(size, stairs, index) <= bound]),)


def certify_filled(size, stairs, rank):
    """Certify that some filling has the rank, that all have a greater one, or that all have a lesser one."""
    filling = filling_of_rank(size, stairs, rank)
    if filling is not None:
        return ("filled", size, stairs, rank), filling
    if least_rank(size, stairs) > rank:
        paper = tuple((index, _needing_row(stairs, index)) for index in needed_rows(stairs)[:rank + 1])
        return ("fillings from", size, stairs, rank + 1), paper
    return ("fillings up to", size, stairs, rank - 1), _bound_paper(size, stairs, rank - 1)
