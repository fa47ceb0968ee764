"""A small checker: which papers show which claims, whoever wrote them."""

from cornerranks.carriers import are_bases, carried, is_carrier, is_least_carrier, rebased, sizes_of
from cornerranks.corners import are_ranks, high_ranks, low_ranks
from cornerranks.exact import NIL, applied, dot, is_between, is_row, is_tuple_of, row_rank, times, unit_row
from cornerranks.fillings import are_stairs, bound_at, fills
from cornerranks.inverses import is_square
from cornerranks.shapes import half_pair, is_half_pair
from cornerranks.tables import MOST, are_small, is_lot, is_table, multiplied, numbers_at
from cornerranks.webs import are_ties, breaks, web_break


def _is_regular_square(value):
    """Tell whether a value is a regular square table."""
    return is_square(value) and row_rank(value) == len(value)


def _is_part_claim(told):
    """Tell whether TABLE, ROWS, COLUMNS, K were told."""
    if len(told) != 4 or not is_table(told[0]):
        return False
    table, rows, columns, bound = told
    return is_lot(rows, len(table)) and is_lot(columns, len(table[0])) and is_between(bound, 0, MOST)


def _is_square_claim(told):
    """Tell whether SQUARE was told."""
    return len(told) == 1 and is_square(told[0])


def _is_ranks_claim(told):
    """Tell whether LOWS, HIGHS were told."""
    if len(told) != 2 or not isinstance(told[0], tuple) or len(told[0]) >= MOST:
        return False
    many = len(told[0])
    return are_small(told[0], many) and are_small(told[1], many)


def _is_sizes_claim(told):
    """Tell whether SQUARE, SIZES were told."""
    return len(told) == 2 and is_square(told[0]) and are_small(told[1], len(told[0]) - 1)


def _is_carriers_claim(told):
    """Tell whether CARRIER, OTHER were told, both of one number of places."""
    return len(told) == 2 and is_carrier(told[0]) and is_carrier(told[1]) and len(told[0]) == len(told[1])


def _is_carrier_claim(told):
    """Tell whether CARRIER was told."""
    return len(told) == 1 and is_carrier(told[0])


def _is_noughts_claim(told):
    """Tell whether a regular SQUARE, ROWS, COLUMNS were told."""
    if len(told) != 3 or not _is_regular_square(told[0]):
        return False
    many = len(told[0])
    return is_lot(told[1], many) and is_lot(told[2], many)


def _is_half_claim(told):
    """Tell whether a regular SQUARE was told."""
    return len(told) == 1 and _is_regular_square(told[0])


def _is_web_claim(told):
    """Tell whether a regular SQUARE, WEB were told."""
    return len(told) == 2 and _is_regular_square(told[0]) and are_ties(told[1], len(told[0]))


def _is_filling_claim(told):
    """Tell whether SIZE, STAIRS, K were told."""
    if len(told) != 3 or not is_between(told[0], 1, MOST):
        return False
    return are_stairs(told[1], told[0]) and is_between(told[2], 0, MOST)


def _are_rows(value, many, wide):
    """Tell whether a value is a tuple of so many rows of so many fractions."""
    return is_tuple_of(value, many) and all(is_row(row, wide) for row in value)


def _shows_rank_up_to(told, paper):
    """Tell whether the paper is two of which the part is the product, with K between them."""
    table, rows, columns, bound = told
    if not is_tuple_of(paper, 2):
        return False
    left, right = paper
    if not _are_rows(left, len(rows), bound) or not _are_rows(right, bound, len(columns)):
        return False
    return times(left, right, len(columns)) == numbers_at(table, rows, columns)


def _are_regular_lots(table, rows, columns):
    """Tell whether two lots of the table have as many elements and a regular part."""
    if not is_lot(rows, len(table)) or not is_lot(columns, len(table[0])) or len(rows) != len(columns):
        return False
    return row_rank(numbers_at(table, rows, columns)) == len(rows)


def _shows_rank_from(told, paper):
    """Tell whether the paper is two lots of K elements, within those of the claim, with a regular part."""
    table, rows, columns, bound = told
    if not is_tuple_of(paper, 2) or not _are_regular_lots(table, paper[0], paper[1]):
        return False
    down, across = paper
    return len(down) == bound and all(i in rows for i in down) and all(j in columns for j in across)


def _shows_regular(told, paper):
    """Tell whether the paper is the inverse."""
    square = told[0]
    many = len(square)
    if not _are_rows(paper, many, many):
        return False
    return multiplied(square, paper) == tuple(unit_row(many, place) for place in range(many))


def _shows_singular(told, paper):
    """Tell whether the paper is a row other than noughts that the table brings to noughts."""
    square = told[0]
    noughts = (NIL,) * len(square)
    return is_row(paper, len(square)) and paper != noughts and applied(square, paper) == noughts


def _shows_some_table(told, paper):
    """Tell whether the paper is a square table with the ranks."""
    lows, highs = told
    if not is_square(paper) or len(paper) != len(lows) + 1:
        return False
    return low_ranks(paper) == lows and high_ranks(paper) == highs


def _shows_no_table(told, paper):
    """Tell whether the paper is (), and no table has the ranks."""
    return is_tuple_of(paper, 0) and not are_ranks(told[0], told[1])


def _shows_carried(told, paper):
    """Tell whether the paper is a carrier of the sizes that carries the numbers below the middle."""
    square, sizes = told
    if not is_carrier(paper) or sizes_of(paper) != sizes:
        return False
    numbers = carried(paper)
    return all(numbers[place][:place] == square[place][:place] for place in range(len(square)))


def _shows_not_carried(told, paper):
    """Tell whether the paper is a cut and two lots, across it, of a regular part too great for the size."""
    square, sizes = told
    if not is_tuple_of(paper, 3) or not is_between(paper[0], 1, len(sizes)):
        return False
    cut, rows, columns = paper
    if not _are_regular_lots(square, rows, columns) or len(rows) <= sizes[cut - 1]:
        return False
    return rows[0] >= cut and columns[-1] < cut


def _shows_bases(told, paper):
    """Tell whether the paper is bases that lead the first carrier to the other one."""
    carrier, other = told
    return are_bases(paper, sizes_of(carrier)) and rebased(carrier, paper) == other


def _shows_unlike_numbers(told, paper):
    """Tell whether the paper is a place below the middle at which unlike numbers are carried."""
    carrier, other = told
    if not is_tuple_of(paper, 2) or not is_between(paper[0], 0, len(carrier) - 1):
        return False
    i, j = paper
    return is_between(j, 0, i - 1) and carried(carrier)[i][j] != carried(other)[i][j]


def _shows_least(told, paper):
    """Tell whether the paper is (), and the carrier is least."""
    return is_tuple_of(paper, 0) and is_least_carrier(told[0])


def _shows_wide(told, paper):
    """Tell whether the paper is a carrier of the same numbers with lesser sizes."""
    carrier = told[0]
    if not is_carrier(paper) or len(paper) != len(carrier):
        return False
    old, new = sizes_of(carrier), sizes_of(paper)
    if old == new or any([size > bound for size, bound in zip(new, old)]):
        return False
    return carried(paper) == carried(carrier)


def _is_inverse_column(square, place, value):
    """Tell whether a value is a row that the table brings to the unit row of the place."""
    many = len(square)
    return is_row(value, many) and applied(square, value) == unit_row(many, place)


def _shows_noughts(told, paper):
    """Tell whether the paper is the inverse's columns, in order, all 0 at the rows."""
    square, rows, columns = told
    if not is_tuple_of(paper, len(columns)):
        return False
    for place, row in zip(columns, paper):
        if not _is_inverse_column(square, place, row) or any([row[i] != NIL for i in rows]):
            return False
    return True


def _shows_no_noughts(told, paper):
    """Tell whether the paper is one of the columns and the inverse's column there, not 0 at all the rows."""
    square, rows, columns = told
    if not is_tuple_of(paper, 2) or not is_between(paper[0], 0, len(square) - 1):
        return False
    place, row = paper
    return place in columns and _is_inverse_column(square, place, row) and any([row[i] != NIL for i in rows])


def _shows_half_pair(told, paper):
    """Tell whether the paper is a half pair."""
    square = told[0]
    return _are_rows(paper, 2, len(square)) and is_half_pair(square, paper[0], paper[1])


def _shows_no_half_pair(told, paper):
    """Tell whether the paper is (), and there is no half pair."""
    return is_tuple_of(paper, 0) and half_pair(told[0]) is None


def _shows_web(told, paper):
    """Tell whether the paper is (), and nothing breaks the web."""
    return is_tuple_of(paper, 0) and web_break(told[0], told[1]) is None


def _shows_web_broken(told, paper):
    """Tell whether the paper is a place and two lots that break the web."""
    square, web = told
    many = len(square)
    if not is_tuple_of(paper, 3) or not is_between(paper[0], 0, many - 1):
        return False
    place, rows, columns = paper
    return is_lot(rows, many) and is_lot(columns, many) and breaks(square, web, place, rows, columns)


def _shows_filled(told, paper):
    """Tell whether the paper is a filling of the rank."""
    size, stairs, bound = told
    return fills(paper, size, stairs) and row_rank(paper) == bound


def _is_needed(stairs, index, row):
    """Tell whether a value is a row whose product is not 0 with row `index` alone of the rows from it on."""
    wide = len(stairs[index])
    if not is_row(row, wide) or dot(row, stairs[index]) == NIL:
        return False
    return all([dot(row, behind[:wide]) == NIL for behind in stairs[index + 1:]])


def _shows_fillings_from(told, paper):
    """Tell whether the paper is K pairs of an index, ascending, and a row that shows that this row counts."""
    _, stairs, bound = told
    if not is_tuple_of(paper, bound) or not all(is_tuple_of(pair, 2) for pair in paper):
        return False
    if not is_lot(tuple(pair[0] for pair in paper), len(stairs)):
        return False
    return all([_is_needed(stairs, index, row) for index, row in paper])


def _shows_fillings_up_to(told, paper):
    """Tell whether the paper is (), where the shape tells it, else the index of a row that does."""
    size, stairs, bound = told
    if bound >= min(size, len(stairs)):
        return is_tuple_of(paper, 0)
    if not is_tuple_of(paper, 1) or not is_between(paper[0], 0, len(stairs) - 1):
        return False
    return bound_at(size, stairs, paper[0]) <= bound


CLAIMS = {
    "rank up to": _is_part_claim, "rank from": _is_part_claim,
    "regular": _is_square_claim, "singular": _is_square_claim,
    "some table": _is_ranks_claim, "no table": _is_ranks_claim,
    "carried": _is_sizes_claim, "not carried": _is_sizes_claim,
    "one in two bases": _is_carriers_claim, "unlike numbers": _is_carriers_claim,
    "least": _is_carrier_claim, "wide": _is_carrier_claim,
    "noughts": _is_noughts_claim, "no noughts": _is_noughts_claim,
    "half pair": _is_half_claim, "no half pair": _is_half_claim,
    "web": _is_web_claim, "web broken": _is_web_claim,
    "filled": _is_filling_claim, "fillings from": _is_filling_claim, "fillings up to": _is_filling_claim,
}
PAPERS = {
    "rank up to": _shows_rank_up_to, "rank from": _shows_rank_from,
    "regular": _shows_regular, "singular": _shows_singular,
    "some table": _shows_some_table, "no table": _shows_no_table,
    "carried": _shows_carried, "not carried": _shows_not_carried,
    "one in two bases": _shows_bases, "unlike numbers": _shows_unlike_numbers,
    "least": _shows_least, "wide": _shows_wide,
    "noughts": _shows_noughts, "no noughts": _shows_no_noughts,
    "half pair": _shows_half_pair, "no half pair": _shows_no_half_pair,
    "web": _shows_web, "web broken": _shows_web_broken,
    "filled": _shows_filled, "fillings from": _shows_fillings_from, "fillings up to": _shows_fillings_up_to,
}


def accepts(claim, paper):
    """Tell whether a value, whatever it is, is a claim, and another one a paper for it."""
    if not isinstance(claim, tuple) or not claim or not isinstance(claim[0], str) or claim[0] not in CLAIMS:
        return False
    is_claim = CLAIMS[claim[0]]
    shows = PAPERS[claim[0]]
    return is_claim(claim[1:]) and shows(claim[1:], paper)
