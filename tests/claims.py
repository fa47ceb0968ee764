"""Claims with papers for the tests, and what is so, told in another way, with Python's own fractions."""

from fractions import Fraction
from itertools import product as all_of

from cornerranks import certificates
from cornerranks.carriers import carrier_with, least_carrier, rebased
from cornerranks.inverses import inverse
from samples import (
    CHAIN, DOWN, FLAT, HALF, HILL, LESS, LONG, NIL, ONE, STILL, TALL, TWO, Stream, beside, carried_rows, chosen,
    drawn_carrier, drawn_sizes, drawn_stairs, high_ranks_of, low_ranks_of, lots, multiples, numbers_of, rank_by_rows,
    regular_squares, sample_squares, sample_tables, small, sparse_squares, stepwise, table_from, times)
from test_fillings import greatest_by_words, least_by_rows
from test_webs import drawn_webs, is_parted, is_so, with_web_inverse
from wrongs import PATH, SINGULAR, STAR, STEPS, WIDE

EXCLUDING = (
    ("regular", "singular"), ("some table", "no table"), ("carried", "not carried"),
    ("one in two bases", "unlike numbers"), ("least", "wide"), ("noughts", "no noughts"),
    ("half pair", "no half pair"), ("web", "web broken"),
)
WORDS = tuple(word for pair in EXCLUDING for word in pair) + (
    "rank up to", "rank from", "filled", "fillings from", "fillings up to")
WITH_NO_PAPER = ("no table", "least", "no half pair", "web")


def others_of(claim):
    """The claims that a claim excludes, of the same things."""
    word, told = claim[0], claim[1:]
    for pair in EXCLUDING:
        if word in pair:
            return [(pair[1 - pair.index(word)],) + told]
    things, bound = told[:-1], told[-1]
    if word in ("rank up to", "fillings up to"):
        names = {"rank up to": ("rank from",), "fillings up to": ("filled", "fillings from")}[word]
        return [(name,) + things + (k,) for name in names for k in range(bound + 1, 7)]
    if word in ("rank from", "fillings from"):
        names = {"rank from": ("rank up to",), "fillings from": ("filled", "fillings up to")}[word]
        return [(name,) + things + (k,) for name in names for k in range(bound)]
    return [("fillings from",) + things + (k,) for k in range(bound + 1, 7)] + [
        ("fillings up to",) + things + (k,) for k in range(bound)]


def sizes_by_places(carrier):
    return [len(outward) for outward, _, _ in carrier[1:]]


def has_half_pair(table):
    """Whether the inverse has a width below of at most 1 and is nowhere 0 just 1 below the middle (point 21)."""
    rows = numbers_of(inverse(table))
    many = len(rows)
    far = any(rows[i][j] for i in range(many) for j in range(i - 1))
    return not far and all(rows[k + 1][k] for k in range(many - 1))


def are_steps(ranks):
    return all(abs(a - b) <= 1 for a, b in zip((0, *ranks), (*ranks, 0)))


def rank_claim_so(word, table, rows, columns, bound):
    rank = rank_by_rows(chosen(numbers_of(table), rows, columns))
    return rank <= bound if word == "rank up to" else rank >= bound


def fillings_so(word, size, stairs, bound):
    least, greatest = least_by_rows(numbers_of(stairs)), greatest_by_words(numbers_of(stairs), size)
    if word == "filled":
        return least <= bound <= greatest
    return bound <= least if word == "fillings from" else bound >= greatest


def first_so(word, things):
    """Whether the first one of two claims that exclude one another is so."""
    if word == "regular":
        return rank_by_rows(numbers_of(things[0])) == len(things[0])
    if word == "some table":
        return are_steps(things[0]) and are_steps(things[1])
    if word == "carried":
        return all(size >= rank for size, rank in zip(things[1], low_ranks_of(numbers_of(things[0]))))
    if word == "one in two bases":
        return carried_rows(things[0]) == carried_rows(things[1])
    if word == "least":
        return sizes_by_places(things[0]) == list(low_ranks_of(carried_rows(things[0])))
    if word == "noughts":
        rows = numbers_of(inverse(things[0]))
        return not any(rows[i][j] for i in things[1] for j in things[2])
    if word == "half pair":
        return has_half_pair(things[0])
    return is_so(*things)


def claim_so(claim):
    """Whether a claim is so; "one in two bases" for least carriers alone."""
    word, things = claim[0], claim[1:]
    if word in ("rank up to", "rank from"):
        return rank_claim_so(word, *things)
    if word in ("filled", "fillings from", "fillings up to"):
        return fillings_so(word, *things)
    first, second = next(pair for pair in EXCLUDING if word in pair)
    return first_so(first, things) is (word == first)


def row_by(rows, row):
    """The rows times a row as a column."""
    return [sum((a * b for a, b in zip(line, row)), Fraction(0)) for line in rows]


def unit_numbers(many, place):
    return [Fraction(int(k == place)) for k in range(many)]


def regular_lots(table, rows, columns):
    return len(rows) == len(columns) == rank_by_rows(chosen(numbers_of(table), rows, columns))


def needed(stairs, index, row):
    """Whether the row's product with row `index` is not 0, with all behind it 0."""
    products = row_by([line[:len(stairs[index])] for line in numbers_of(stairs)[index:]], numbers_of([row])[0])
    return bool(products[0]) and not any(products[1:])


def led(carrier, bases):
    """The carrier to which the bases lead it, by inverses found number by number."""
    whole = [()] + [numbers_of(base) for base in bases] + [()]
    backs = [solved_rows(base) for base in whole]
    triples = []
    for k, (outward, onward, inward) in enumerate(carrier):
        back, base = backs[k], whole[k + 1]
        column = numbers_of([inward])[0]
        rows = [[sum((a * line[j] for a, line in zip(row, numbers_of(onward))), Fraction(0))
                 for j in range(len(outward))] for row in base]
        triples.append((row_on(numbers_of([outward])[0], back), [row_on(row, back) for row in rows],
                        row_by(base, column)))
    return triples


def row_on(row, rows):
    return [sum((a * line[j] for a, line in zip(row, rows)), Fraction(0)) for j in range(len(rows))]


def solved_rows(rows):
    """The inverse, column by column."""
    columns = [list(column) for column in zip(*rows)]
    found = [multiples(unit_numbers(len(rows), k), columns) for k in range(len(rows))]
    return [list(line) for line in zip(*found)]


def as_numbers(carrier):
    return [(numbers_of([outward])[0], numbers_of(onward), numbers_of([inward])[0])
            for outward, onward, inward in carrier]


def shown(claim, paper):
    """Whether a paper of the right form shows a claim, by the words of point 27."""
    word, things = claim[0], claim[1:]
    if word == "rank up to":
        table, rows, columns, _ = things
        left, right = numbers_of(paper[0]), numbers_of(paper[1])
        product = [[sum((a * line[k] for a, line in zip(row, right)), Fraction(0)) for k in range(len(columns))]
                   for row in left]
        return product == chosen(numbers_of(table), rows, columns)
    if word == "rank from":
        table, rows, columns, bound = things
        within = set(paper[0]) <= set(rows) and set(paper[1]) <= set(columns)
        return within and len(paper[0]) == bound and regular_lots(table, *paper)
    if word == "regular":
        many = len(things[0])
        return times(numbers_of(things[0]), numbers_of(paper)) == [unit_numbers(many, k) for k in range(many)]
    if word == "singular":
        row = numbers_of([paper])[0]
        return any(row) and not any(row_by(numbers_of(things[0]), row))
    if word == "some table":
        rows = numbers_of(paper)
        return low_ranks_of(rows) == things[0] and high_ranks_of(rows) == things[1]
    if word == "carried":
        rows, below = numbers_of(things[0]), carried_rows(paper)
        return list(things[1]) == sizes_by_places(paper) and all(a[:k] == b[:k] for k, (a, b) in
                                                                 enumerate(zip(rows, below)))
    if word == "not carried":
        cut, rows, columns = paper
        return regular_lots(things[0], rows, columns) and len(rows) > things[1][cut - 1] and (
            min(rows) >= cut > max(columns))
    return shown_too(word, things, paper)


def shown_too(word, things, paper):
    if word == "one in two bases":
        return as_numbers(things[1]) == led(things[0], paper)
    if word == "unlike numbers":
        i, j = paper
        return i > j and carried_rows(things[0])[i][j] != carried_rows(things[1])[i][j]
    if word == "wide":
        old, new = sizes_by_places(things[0]), sizes_by_places(paper)
        return carried_rows(things[0]) == carried_rows(paper) and old != new and (
            all(a <= b for a, b in zip(new, old)))
    if word == "noughts":
        square, rows, columns = things
        return all(row_by(numbers_of(square), numbers_of([row])[0]) == unit_numbers(len(square), k)
                   and not any(row[i][0] for i in rows) for k, row in zip(columns, paper))
    if word == "no noughts":
        square, rows, columns = things
        place, row = paper
        return place in columns and any(row[i][0] for i in rows) and (
            row_by(numbers_of(square), numbers_of([row])[0]) == unit_numbers(len(square), place))
    if word == "half pair":
        (a, b), rows = numbers_of(paper), numbers_of(things[0])
        return all(rows[i][j] == a[i] * b[j] for i in range(len(rows)) for j in range(i + 1))
    if word == "web broken":
        place, rows, columns = paper
        table = chosen(numbers_of(things[0]), sorted((place,) + rows), sorted((place,) + columns))
        return is_parted(things[1], place, rows, columns) and rank_by_rows(table) > 1
    size, stairs, bound = things
    if word == "filled":
        return all(row[:len(told)] == told for row, told in zip(paper, stairs)) and (
            rank_by_rows(numbers_of(paper)) == bound)
    if word == "fillings from":
        return len(paper) == bound and all(needed(stairs, i, row) for i, row in paper)
    many = len(stairs)
    if bound >= min(size, many):
        return paper == ()
    i = paper[0]
    wide = len(stairs[i])
    return i + size - wide + rank_by_rows([row[:wide] for row in numbers_of(stairs)[i:]]) <= bound


def plain_calls():
    """(name of a certificate, arguments) by hand: few numbers, one place, noughts, () and the bounds."""
    wide = carrier_with(CHAIN, (2, 3))
    led_on = rebased(DOWN, (((TWO,),), ((HALF,),)))
    still, none = STILL[:1], ()
    yield from (("certify_rank", (table, rows, columns, bound)) for bound in range(7) for table, rows, columns in (
        (WIDE, (0, 1), (0, 1, 2)), (CHAIN, (1, 2), (0, 1)), (HILL, (1, 2), (0, 1)), (LONG, (0,), (2,)), (FLAT, (), (0,)),
        (TALL, (0, 2), ()), (TALL, (), ()), (FLAT, (0, 1), (0, 1)), (CHAIN, (0, 1, 2), (0, 1, 2)), (((NIL,),), (0,), (0,))))
    yield from (("certify_regular", (square,)) for square in (CHAIN, FLAT, HILL, SINGULAR, ((NIL,),), ((HALF,),)))
    yield from (("certify_ranks", pair) for pair in (
        ((), ()), ((1,), (0,)), ((2,), (0,)), ((1, 1), (0, 2)), ((1, 2, 1), (0, 1, 0)), ((1, 2, 3, 2, 1), (1, 2, 3, 2, 1)),
        ((0, 1, 2, 1, 1), (1, 1, 1, 1, 0)), ((6,) * 5, (0,) * 5), ((0, 0), (6, 6))))
    yield from (("certify_sizes", (square, sizes)) for square, sizes in (
        (((ONE,),), none), (FLAT, (0,)), (FLAT, (1,)), (CHAIN, (1, 0)), (CHAIN, (0, 0)), (CHAIN, (1, 1)), (HILL, (1, 3)),
        (SINGULAR, (1, 0)), (CHAIN, (6, 1)), (FLAT, (6,))))
    yield from (("certify_bases", pair) for pair in (
        (DOWN, DOWN), (DOWN, led_on), (DOWN, STILL), (still, still), (STILL, STILL), (DOWN, least_carrier(CHAIN)),
        (least_carrier(CHAIN), DOWN)))
    yield from (("certify_least", (carrier,)) for carrier in (DOWN, STILL, still, wide, carrier_with(HILL, (1, 2))))
    yield from (("certify_noughts", (square, rows, columns)) for square, rows, columns in (
        (HILL, (2,), (0,)), (HILL, (0, 1), (1,)), (HILL, (), (0, 1)), (HILL, (0, 1), ()), (HILL, (), ()), (CHAIN, (0,), (2,)),
        (HILL, (0, 2), (0, 2)), (((HALF,),), (0,), (0,)), (((HALF,),), (0,), ()), (HILL, (0,), (1, 2))))
    yield from (("certify_half_pair", (square,)) for square in (HILL, CHAIN, ((HALF,),), ((ONE, NIL), (TWO, ONE))))
    yield from (("certify_web", (square, web)) for square, web in (
        (HILL, PATH), (HILL, STAR), (CHAIN, PATH), (((ONE,),), none), (((ONE, TWO), (LESS, ONE)), ((0, 1),))))
    yield from (("certify_filled", (size, stairs, rank)) for rank in range(7) for size, stairs in (
        (2, STEPS), (3, STEPS), (2, ((NIL,), (NIL, ONE))), (1, ((),)), (2, ((), (ONE,))), (3, CHAIN), (1, ((NIL,), (ONE,))),
        (4, ((NIL,), (NIL,), (NIL, ONE, TWO))), (2, ((NIL, NIL),) * 3)))


def drawn_calls(seed, most=5):
    """(name of a certificate, arguments) with drawn tables, carriers and stairs."""
    stream = Stream(seed)
    for table, _ in sample_tables(seed, most):
        rows, columns = (tuple(k for k in range(count) if stream.below(4)) for count in (len(table), len(table[0])))
        yield "certify_rank", (table, rows, columns, stream.below(4))
    for table, _ in sample_squares(seed, most):
        yield "certify_regular", (table,)
        yield "certify_sizes", (table, drawn_sizes(stream, len(table), 3))
    for lows in stepwise(4)[::3]:
        yield "certify_ranks", (lows, (1, 2, 1, 0))
        yield "certify_ranks", ((0, 1, stream.below(5), 1), lows)
    yield from drawn_carrier_calls(stream, most)
    for table in regular_squares(seed, most) + sparse_squares(seed, most, each=4):
        some = [lot for lot in lots(len(table)) if stream.below(3) == 0]
        for rows in some[:3]:
            yield "certify_noughts", (table, rows, some[stream.below(len(some))])
            yield "certify_noughts", (inverse(table), rows, beside(rows, len(table)))
        yield "certify_half_pair", (table,)
        web = drawn_webs(stream, len(table), 1)[0]
        yield "certify_web", (table, web)
        yield "certify_web", (with_web_inverse(stream, web), web)
    for many, size in all_of(range(1, most + 1), repeat=2):
        stairs = drawn_stairs(stream, many, size)
        yield from (("certify_filled", (size, stairs, rank)) for rank in range(7))


def drawn_carrier_calls(stream, most):
    for many in range(1, most + 1):
        for _ in range(4):
            carrier = drawn_carrier(stream, drawn_sizes(stream, many, 2), small)
            yield "certify_least", (carrier,)
            least = least_carrier(table_from(carried_rows(carrier)))
            yield "certify_least", (least,)
            bases = tuple(table_from([[int(i == j) + int(i < j) * small(stream) for j in range(size)]
                                      for i in range(size)]) for size in sizes_by_places(least))
            yield "certify_bases", (least, rebased(least, bases))
            rows = [[small(stream) for _ in range(many)] for _ in range(many)]
            yield "certify_bases", (least, least_carrier(table_from(rows)))


def certified(calls):
    """(claim, paper) for each of the calls."""
    for name, values in calls:
        yield getattr(certificates, name)(*values)
