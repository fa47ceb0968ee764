"""Tables for the tests, and the same things told in another way, with Python's own fractions."""

from fractions import Fraction
from itertools import combinations, permutations
from itertools import product as all_of

from cornerranks.corners import table_with

NIL, HALF, ONE, TWO, THREE, LESS = (0, 1), (1, 2), (1, 1), (2, 1), (3, 1), (-1, 1)
CHAIN = ((TWO, LESS, NIL), (LESS, TWO, LESS), (NIL, LESS, TWO))
FLAT = ((ONE, ONE), (ONE, ONE))
LONG = ((ONE, TWO, NIL),)
TALL = ((ONE,), (NIL,), (HALF,))
HILL = ((THREE, TWO, ONE), (TWO, (4, 1), TWO), (ONE, TWO, THREE))
# Carriers of three places: one of the sizes 1 and 1, and one that carries nothing.
DOWN = (((), ((),), (ONE,)), ((TWO,), ((TWO,),), (ONE,)), ((TWO,), (), ()))
STILL = (((), (), ()),) * 3


class Stream:
    """Numbers that look like chance and are the same in each run."""

    def __init__(self, seed):
        self.state = seed

    def below(self, bound):
        self.state = (self.state * 6364136223846793005 + 1442695040888963407) % 2 ** 64
        return (self.state >> 24) % bound

    def long(self, figures):
        return int("".join(str(self.below(10)) for _ in range(figures)))


def pair(number):
    """A number of Python's own as the package writes it."""
    number = Fraction(number)
    return (number.numerator, number.denominator)


def table_from(rows):
    return tuple(tuple(pair(number) for number in row) for row in rows)


def numbers_of(rows):
    return [[Fraction(top, bottom) for top, bottom in row] for row in rows]


def times(rows, others):
    return [[sum((a * b for a, b in zip(row, column)), Fraction(0)) for column in zip(*others)] for row in rows]


def unit(many):
    return table_from([[int(i == j) for j in range(many)] for i in range(many)])


def lots(many):
    """All lots of so many."""
    return [lot for count in range(many + 1) for lot in combinations(range(many), count)]


def beside(lot, many):
    return tuple(k for k in range(many) if k not in lot)


def chosen(rows, lines, places):
    return [[rows[i][j] for j in places] for i in lines]


def rank_by_rows(rows):
    """The rank of rows of Python's own fractions, by taking rows from others."""
    rows = [list(row) for row in rows]
    rank = 0
    for place in range(len(rows[0]) if rows else 0):
        at = next((i for i in range(rank, len(rows)) if rows[i][place]), None)
        if at is None:
            continue
        rows[rank], rows[at] = rows[at], rows[rank]
        for i in range(rank + 1, len(rows)):
            by = rows[i][place] / rows[rank][place]
            rows[i] = [a - by * b for a, b in zip(rows[i], rows[rank])]
        rank += 1
    return rank


def sign(order):
    """1 or - 1: of an order of 0, 1, .., by the number of pairs that stand the wrong way."""
    return (-1) ** sum(a > b for a, b in combinations(order, 2))


def determinant_by_orders(rows):
    """The determinant, as the sum over all orders of the columns."""
    total = Fraction(0)
    for order in permutations(range(len(rows))):
        term = Fraction(sign(order))
        for i, j in enumerate(order):
            term *= rows[i][j]
            if not term:
                break
        total += term
    return total


def rank_by_parts(rows):
    """The rank, as the greatest number of rows of a part that has a determinant other than 0."""
    many, wide = len(rows), len(rows[0]) if rows else 0
    for count in range(min(many, wide), 0, -1):
        for lines in combinations(range(many), count):
            for places in combinations(range(wide), count):
                if determinant_by_orders(chosen(rows, lines, places)):
                    return count
    return 0


def small(stream):
    return stream.below(7) - 3


def broken(stream):
    return Fraction(stream.below(19) - 9, stream.below(9) + 1)


def huge(stream):
    return Fraction(stream.long(40) * (1 - 2 * stream.below(2)), stream.long(30) + 1)


KINDS = (small, broken, huge)


def rows_of_rank(stream, kind, many, wide, rank):
    """Rows with just this rank: made as a product, and tried until they have it."""
    while True:
        if rank == 0:
            return [[Fraction(0)] * wide for _ in range(many)]
        left = [[Fraction(kind(stream)) for _ in range(rank)] for _ in range(many)]
        right = [[Fraction(kind(stream)) for _ in range(wide)] for _ in range(rank)]
        rows = times(left, right)
        if rank_by_rows(rows) == rank:
            return rows


def sample_tables(seed=1, most=6):
    """(table, rank): tables of all shapes and ranks, in turn of small, broken and huge numbers."""
    stream = Stream(seed)
    turn = 0
    for many in range(1, most + 1):
        for wide in range(1, most + 1):
            for rank in range(min(many, wide) + 1):
                kind = KINDS[turn % 3]
                turn += 1
                yield table_from(rows_of_rank(stream, kind, many, wide, rank)), rank


def sample_squares(seed=2, most=6):
    """(square table, rank) for all ranks, each with small, broken and huge numbers."""
    stream = Stream(seed)
    for many in range(1, most + 1):
        for rank in range(many + 1):
            for kind in KINDS:
                yield table_from(rows_of_rank(stream, kind, many, many, rank)), rank


def regular_squares(seed=3, most=6):
    return [table for table, rank in sample_squares(seed, most) if rank == len(table)]


def sparse_squares(seed=4, most=6, each=6):
    """Regular tables with many noughts, whose parts have all kinds of ranks."""
    stream = Stream(seed)
    found = []
    for many in range(1, most + 1):
        left = each
        while left:
            rows = [[Fraction((stream.below(5) - 2) * stream.below(2)) for _ in range(many)] for _ in range(many)]
            if rank_by_rows(rows) == many:
                found.append(table_from(rows))
                left -= 1
    return found


def low_ranks_of(rows):
    return tuple(rank_by_rows([row[:k] for row in rows[k:]]) for k in range(1, len(rows)))


def high_ranks_of(rows):
    return tuple(rank_by_rows([row[k:] for row in rows[:k]]) for k in range(1, len(rows)))


def stepwise(count):
    """All rows of so many low ranks that some table has."""
    return [row for row in all_of(range(4), repeat=count)
            if all(abs(a - b) <= 1 for a, b in zip((0, *row), (*row, 0)))]


def upper_rows(stream, many):
    """Rows with noughts below the middle and none on it."""
    return [[Fraction(1 + stream.below(3)) if i == j else Fraction(small(stream) if j > i else 0) for j in range(many)]
            for i in range(many)]


def with_low_ranks(stream, lows):
    """A square table of these low ranks: drawn on and above the middle, and filled below it."""
    many = len(lows) + 1
    upper = upper_rows(stream, many)
    # Products with such rows on both sides leave the low ranks.
    rows = times(times(upper, numbers_of(table_with(lows, lows))), upper_rows(stream, many))
    return table_from([[small(stream) if j >= i else rows[i][j] for j in range(many)] for i in range(many)])


def drawn_sizes(stream, many, most):
    return tuple(stream.below(most + 1) for _ in range(many - 1))


def drawn_carrier(stream, sizes, kind=small):
    """A carrier of these sizes with drawn numbers."""
    bounds = (0, *sizes, 0)
    triples = []
    for before, after in zip(bounds, bounds[1:]):
        outward, *onward = table_from([[kind(stream) for _ in range(before)] for _ in range(after + 1)])
        triples.append((outward, tuple(onward), tuple(pair(kind(stream)) for _ in range(after))))
    return tuple(triples)


def drawn_carrying(stream, many, most, kind=small):
    down, up = (drawn_carrier(stream, drawn_sizes(stream, many, most), kind) for _ in range(2))
    return down, tuple(pair(kind(stream)) for _ in range(many)), up


def drawn_row(stream, many):
    return tuple(pair(broken(stream)) for _ in range(many))


def row_times(row, rows, wide):
    """A row times rows of so many numbers, which may be none."""
    return [sum((a * line[j] for a, line in zip(row, rows)), Fraction(0)) for j in range(wide)]


def carried_number(carrier, i, j):
    """The number P_i M_(i-1) .. M_(j+1) Q_j, worked out from the left."""
    row = numbers_of([carrier[i][0]])[0]
    for outward, onward, _ in carrier[i - 1:j:-1]:
        row = row_times(row, numbers_of(onward), len(outward))
    return sum((a * b for a, b in zip(row, numbers_of([carrier[j][2]])[0])), Fraction(0))


def carried_rows(carrier):
    many = len(carrier)
    return [[carried_number(carrier, i, j) if i > j else Fraction(0) for j in range(many)] for i in range(many)]


def carrying_rows(carrying):
    """The numbers of the table that a carrying tells."""
    down, middle, up = carrying
    below, above, along = carried_rows(down), carried_rows(up), numbers_of([middle])[0]
    many = len(middle)
    return [[along[i] if i == j else below[i][j] if i > j else above[j][i] for j in range(many)] for i in range(many)]


def column(row):
    return tuple((number,) for number in row)


def is_plain(value):
    """Whether a value is built of tuples and whole numbers alone, as all that is returned."""
    if isinstance(value, tuple):
        return all(is_plain(inner) for inner in value)
    return type(value) is int


def built_again(value):
    """An equal value of new tuples."""
    if isinstance(value, tuple):
        return tuple([built_again(inner) for inner in value])
    return value


def multiples(row, rows):
    """Numbers with which the rows are summed up to the row; None if there are none."""
    count = len(rows)
    lines = [[line[k] for line in rows] + [row[k]] for k in range(len(row))]
    done = []
    for place in range(count):
        at = next((k for k in range(len(done), len(lines)) if lines[k][place]), None)
        if at is None:
            continue
        lines[len(done)], lines[at] = lines[at], lines[len(done)]
        top = lines[len(done)] = [number / lines[len(done)][place] for number in lines[len(done)]]
        for k in range(len(lines)):
            if k != len(done):
                by = lines[k][place]
                lines[k] = [a - by * b for a, b in zip(lines[k], top)]
        done.append(place)
    if any(line[-1] for line in lines[len(done):]):
        return None
    found = [Fraction(0)] * count
    for line, place in zip(lines, done):
        found[place] = line[-1]
    return found


def shapes_of(many, size):
    """All rows of as many numbers as stairs of so many rows may tell."""
    return [counts for counts in all_of(range(size + 1), repeat=many) if list(counts) == sorted(counts)]


def drawn_stairs(stream, many, size, draw=small):
    """Stairs with drawn numbers, of which some rows are sums of those behind them."""
    counts = sorted(stream.below(size + 1) for _ in range(many))
    rows = []
    for count in reversed(counts):
        row = [Fraction(draw(stream)) for _ in range(count)]
        if stream.below(2):
            by = [Fraction(draw(stream)) for _ in rows]
            row = [sum((a * line[k] for a, line in zip(by, rows)), Fraction(0)) for k in range(count)]
        rows = [row] + rows
    return table_from(rows)


def turned_stairs(stairs, size):
    """The stairs with their columns as rows, both from behind; of len(stairs) columns."""
    rows = []
    for place in reversed(range(size)):
        rows.append(tuple(row[place] for row in reversed(stairs) if len(row) > place))
    return tuple(rows)


def drawn_band(stream, many, width, draw=small):
    return tuple(tuple(pair(draw(stream)) if abs(i - j) <= width else None for j in range(many)) for i in range(many))
