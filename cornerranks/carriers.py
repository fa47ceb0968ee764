"""Carriers: the numbers below the middle of a table, told by what goes on from place to place."""

from cornerranks.corners import low_ranks
from cornerranks.errors import InvalidBases, InvalidCarrier, InvalidSizes, NotLeast, UnlikeSizes
from cornerranks.exact import NIL, applied, columns_at, dot, is_between, is_row, is_tuple_of, reduced, row_rank, times
from cornerranks.inverses import check_row, check_square, inverse, is_square
from cornerranks.tables import MOST, check_number


def _is_triple(value, many):
    """Tell whether a value is a triple of a carrier to which so many numbers go down."""
    if not is_tuple_of(value, 3):
        return False
    outward, onward, inward = value
    if not is_row(outward, many):
        return False
    if not isinstance(inward, tuple) or len(inward) > MOST or not is_row(inward, len(inward)):
        return False
    return is_tuple_of(onward, len(inward)) and all(is_row(row, many) for row in onward)


def _has_places(value):
    """Tell whether a value is a tuple of as many elements as a carrier may have."""
    return isinstance(value, tuple) and 1 <= len(value) <= MOST


def _wrong_place(places):
    """Return the index of the first triple that is not as it has to be; None."""
    many = 0
    for index, triple in enumerate(places):
        if not _is_triple(triple, many):
            return index
        many = len(triple[2])
    if many > 0:
        return len(places) - 1
    return None


def is_carrier(value):
    """Tell whether a value, whatever it is, is a carrier."""
    return _has_places(value) and _wrong_place(value) is None


def check_carrier(carrier):
    """Raise the error for what is no carrier."""
    if not _has_places(carrier):
        raise InvalidCarrier(None)
    index = _wrong_place(carrier)
    if index is not None:
        raise InvalidCarrier(index)


def _check_sizes(sizes, many):
    """Raise the error for what are no sizes at so many cuts."""
    if not is_tuple_of(sizes, many):
        raise InvalidSizes(None)
    for index, size in enumerate(sizes):
        if not is_between(size, 0, MOST):
            raise InvalidSizes(index)


def _is_base(value, size):
    """Tell whether a value is a base of this size."""
    if size == 0:
        return is_tuple_of(value, 0)
    return is_square(value) and len(value) == size and row_rank(value) == size


def are_bases(value, sizes):
    """Tell whether a value is a row of bases of these sizes."""
    return is_tuple_of(value, len(sizes)) and all([_is_base(base, size) for base, size in zip(value, sizes)])


def _check_bases(bases, sizes):
    """Raise the error for what are no bases of these sizes."""
    if not is_tuple_of(bases, len(sizes)):
        raise InvalidBases(None)
    for index, base in enumerate(bases):
        if not _is_base(base, sizes[index]):
            raise InvalidBases(index)


def sizes_of(carrier):
    """Return how many numbers go over each cut."""
    check_carrier(carrier)
    return tuple(len(triple[0]) for triple in carrier[1:])


def _coming_columns(carrier):
    """Return for each place the columns of the coming table there, () for the first place."""
    found = []
    columns = ()
    for _, onward, inward in carrier:
        found.append(columns)
        columns = (*[applied(onward, column) for column in columns], inward)
    return found


def carried(carrier):
    """Return the square table of the numbers that are carried, 0 from the middle on."""
    check_carrier(carrier)
    many = len(carrier)
    rows = []
    for place, columns in enumerate(_coming_columns(carrier)):
        rows.append(applied(columns, carrier[place][0]) + (NIL,) * (many - place))
    return tuple(rows)


def carry(carrier, row):
    """Return the row of what goes out of the places beside a row of numbers."""
    check_carrier(carrier)
    check_row(row, len(carrier))
    out = []
    held = ()
    for number, (outward, onward, inward) in zip(row, carrier):
        out.append(dot(outward, held))
        going_in = (*held, number)
        held = tuple([dot((*line, mate), going_in) for line, mate in zip(onward, inward)])
    return tuple(out)


def coming(carrier, cut):
    """Return the coming table at a cut."""
    check_carrier(carrier)
    check_number(cut, 1, len(carrier) - 1)
    size = len(carrier[cut][0])
    return columns_at(_coming_columns(carrier)[cut], list(range(size)))


def going(carrier, cut):
    """Return the going table at a cut."""
    check_carrier(carrier)
    check_number(cut, 1, len(carrier) - 1)
    rows = ()
    for outward, onward, _ in reversed(carrier[cut:]):
        rows = (outward, *times(rows, onward, len(outward)))
    return rows


def is_least_carrier(carrier):
    """Tell whether the sizes of a carrier are the low ranks of what it carries."""
    return sizes_of(carrier) == low_ranks(carried(carrier))


def least_carrier(square):
    """Return a least carrier of the numbers below the middle of a square table."""
    check_square(square)
    triples = []
    before = []
    for place, row in enumerate(square):
        # x tells the next low part's columns as sums of its free ones, which were free before or are new.
        lines, free = reduced([line[:place + 1] for line in square[place + 1:]], place + 1)
        onward = tuple(tuple(line[k] for k in before) for line in lines)
        triples.append((tuple(row[k] for k in before), onward, tuple(line[place] for line in lines)))
        before = free
    return tuple(triples)


def _with_noughts(row, size):
    """Return a row with noughts more, to be one of this size."""
    return row + (NIL,) * (size - len(row))


def carrier_with(square, sizes):
    """Return a carrier of just these sizes of the numbers below the middle of a square table; None."""
    check_square(square)
    _check_sizes(sizes, len(square) - 1)
    least = least_carrier(square)
    if any([size < needed for size, needed in zip(sizes, sizes_of(least))]):
        return None
    bounds = (0, *sizes, 0)
    triples = []
    for place, (outward, onward, inward) in enumerate(least):
        before, after = bounds[place], bounds[place + 1]
        rows = [_with_noughts(row, before) for row in onward]
        noughts = [(NIL,) * before] * (after - len(rows))
        triples.append((_with_noughts(outward, before), (*rows, *noughts), _with_noughts(inward, after)))
    return tuple(triples)


def made_least(carrier):
    """Return a least carrier that carries the same numbers."""
    return least_carrier(carried(carrier))


def _base_between(columns, others, size):
    """Return the base that leads one coming table to another one, both told by their columns."""
    rows = reduced([column + other for column, other in zip(columns, others)], size)[0]
    return columns_at(rows, list(range(size, 2 * size)))


def bases_between(carrier, other):
    """Return the bases that lead a least carrier to another one; None if they carry unlike numbers."""
    check_carrier(carrier)
    check_carrier(other)
    if len(other) != len(carrier):
        raise UnlikeSizes()
    if not is_least_carrier(carrier) or not is_least_carrier(other):
        raise NotLeast()
    if carried(carrier) != carried(other):
        return None
    ahead, behind = _coming_columns(carrier), _coming_columns(other)
    sizes = sizes_of(carrier)
    return tuple(_base_between(ahead[k + 1], behind[k + 1], sizes[k]) for k in range(len(sizes)))


def rebased(carrier, bases):
    """Return the carrier to which bases lead a carrier."""
    _check_bases(bases, sizes_of(carrier))
    # No numbers go down to the first place, none go on from the last one.
    led = [*bases, ()]
    back = ()
    triples = []
    for place, (outward, onward, inward) in enumerate(carrier):
        size = len(outward)
        base = led[place]
        moved = times(times(base, onward, size), back, size)
        triples.append((times((outward,), back, size)[0], moved, applied(base, inward)))
        back = inverse(base) if base else ()
    return tuple(triples)
