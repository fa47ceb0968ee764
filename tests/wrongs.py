"""Wrong values for each parameter, with what is told of them, and the functions that have it."""

from samples import CHAIN, DOWN, HALF, HILL, LESS, LONG, NIL, ONE, STILL, TWO

HUGE = 10 ** 399 + 7
DEEP = (((((((((((((),),),),),),),),),),),),)
WIDE = ((ONE, TWO, HALF), (LESS, NIL, ONE))
SINGULAR = ((ONE, TWO, NIL), (TWO, (4, 1), NIL), (NIL, NIL, ONE))

# What is no tuple at all, of many kinds.
ANYTHING = (
    None, True, False, 0, 1, 3, -1, HUGE, -HUGE, "", "abc", b"", b"abc", [], {}, set(), frozenset(), range(3), object(),
    len, ValueError, [ONE], [0, 1], [0, 1, 2], {"a": 1}, {0: ONE, 1: ONE, 2: ONE}, (lambda: 0),
)

NO_TABLES = ANYTHING + (
    (), ((),), (0,), (0, 1), DEEP, ONE, (ONE,), (ONE, ONE), (None,), ("a", "b"), ([ONE],), [(ONE,)], ((ONE,), [ONE]),
    ((ONE,), (ONE, ONE)), ((ONE,),) * 7, ((ONE,) * 7,) * 7, ((ONE, True),), (((1, True),),), (((2, 2),),),
    (((1, -1),),), (((1, 0),),), (((1, 1, 1),),), (((HUGE, HUGE),),),
)
NO_SQUARES = NO_TABLES + (LONG, WIDE, ((ONE,), (ONE,)), ((ONE,) * 6,) * 5)


def no_lots(many):
    """What is no lot of so many, none of them a tuple of one element from 0 to many - 1."""
    return ANYTHING + (
        (many,), (0, many), (-1,), (-1, 0), (HUGE,), (0, HUGE), (0, 0), (1, 0), (0, 1, 1), (True,), (False,),
        (False, True), (0, True), (None,), ("0",), ("a",), (b"a",), ([],), ((),), ((0,),), (0, (1,)), DEEP,
        tuple(range(many + 1)), tuple(range(many))[::-1], (0, None), (0, "1"),
    )


# (value, the index that is told), for a row of three numbers.
NO_ROWS = tuple((value, None) for value in ANYTHING) + (
    ((), None), ((ONE,), None), ((ONE, ONE), None), ((ONE,) * 4, None), (DEEP, None), ([ONE, ONE, ONE], None),
    (((2, 2), None), None), ((None, ONE, ONE), 0), ((1, ONE, ONE), 0), ((ONE, True, ONE), 1), ((ONE, ONE, (1, 0)), 2),
    ((ONE, (2, 4), (1, 0)), 1), ((ONE, [1, 1], ONE), 1), (((1, True), ONE, ONE), 0), ((ONE, ONE, (1, -1)), 2),
    ((ONE, ONE, (1, 1, 1)), 2), ((None, None, None), 0), ((ONE, DEEP, ONE), 1), ((ONE, ONE, (HUGE, HUGE)), 2),
    ((ONE, ONE, "11"), 2), ((0, 1, 2), 0), ((NIL, (0, 2), NIL), 1), ((NIL, NIL, ()), 2),
)

NO_LOWS = tuple((value, None) for value in ANYTHING) + (
    ((0,) * 6, None), ((0,) * 7, None), ((None,) * 6, None), ([0, 1], None), ((-1,), 0), ((7,), 0), ((0, 7), 1),
    ((0, 0, -1), 2), ((True,), 0), ((0, False), 1), ((0, 1, None, 7), 2), ((None,), 0), (("1",), 0), ((0, HUGE), 1),
    ((0, 1, 2, 3, 7), 4), ((6, 6, 6, 6, -HUGE), 4), (((),), 0), ((0, (0,)), 1), (([],), 0), (DEEP, 0), ((0, 0, ONE), 2),
)
# Beside lows of three numbers.
NO_HIGHS = tuple((value, None) for value in ANYTHING) + (
    ((), None), ((0,), None), ((0, 0), None), ((0,) * 4, None), ((7, 7), None), ((None,) * 4, None), ([0, 0, 0], None),
    ((-1, 0, 0), 0), ((0, 7, 0), 1), ((0, 0, HUGE), 2), ((True, 0, 0), 0), ((0, 0, False), 2), ((0, None, 7), 1),
    (("0", 0, 0), 0), ((0, (), 0), 1), ((0, 0, [0]), 2), ((6, 6, 7), 2), ((DEEP, 0, 0), 0),
)

# For a column of two numbers, beside a table of two rows of three.
NO_COLUMNS = tuple((value, None) for value in ANYTHING) + (
    ((), None), ((ONE,), None), ((ONE,) * 3, None), (DEEP, None), ([ONE, ONE], None), (((2, 2),), None),
    ((None, ONE), 0), ((ONE, None), 1), ((ONE, (2, 4)), 1), (((1, 0), (2, 4)), 0), ((ONE, [1, 1]), 1), ((0, 1), 0),
    ((NIL, (0, 2)), 1), (((True, 1), ONE), 0), ((ONE, (1, -1)), 1), ((ONE, (HUGE, HUGE)), 1),
)


def placed(values, place, value):
    """The tuple with another value at the place."""
    return values[:place] + (value,) + values[place + 1:]


def wrong_triples(triple):
    """What is almost this triple of a carrier, but wrong behind those ahead of it, whatever follows."""
    outward, onward, inward = triple
    line = (ONE,) * len(outward)
    return [
        None, 0, True, "PMQ", {}, (), DEEP, ONE, list(triple), triple[:2], triple + ((),), (triple,),
        placed(triple, 0, None), placed(triple, 1, None), placed(triple, 2, None),
        placed(triple, 0, outward + (ONE,)), placed(triple, 0, outward[1:] if outward else (NIL,)),
        placed(triple, 0, list(outward)), placed(triple, 1, list(onward)), placed(triple, 2, list(inward)),
        placed(triple, 1, onward + (line,)), placed(triple, 1, onward[1:] if onward else (line,)),
        placed(triple, 2, inward + (ONE,)), (outward, (line,) * 7, (ONE,) * 7),
        (outward, onward + (line + (ONE,),), inward + (ONE,)), (outward, onward + (list(line),), inward + (ONE,)),
        (outward, onward + (None,), inward + (ONE,)),
    ] + [
        (outward, onward + (line,), inward + (number,))
        for number in (None, 1, True, (2, 2), (1, 0), (1, -1), (True, 1), (1, True), [1, 1], (1, 1, 1), (HUGE, HUGE))
    ] + [
        placed(triple, 0, placed(outward, 0, number)) for number in (None, 1, True, (2, 4), [1, 2], (0, 2)) if outward
    ] + [
        placed(triple, 1, placed(onward, 0, placed(onward[0], 0, number)))
        for number in (None, 1, False, (2, 4), [1, 2], (-1, -1)) if outward and onward
    ]


def wrong_carriers(carrier):
    """(value, index): a carrier with each of its triples wrong, the ones ahead right, those behind as they are."""
    return [(placed(carrier, place, wrong), place)
            for place, triple in enumerate(carrier) for wrong in wrong_triples(triple)]


# (value, the index that is told); the right carriers among these are of three places.
NO_CARRIERS = tuple((value, None) for value in ANYTHING) + tuple(wrong_carriers(DOWN)) + (
    ((), None), (list(DOWN), None), (STILL[:1] * 7, None), ((None,) * 7, None), (DEEP, 0), (("P", "M", "Q"), 0),
    (DOWN[:1], 0), (DOWN[:2], 1), (DOWN[1:], 0), (DOWN[2:], 0), (DOWN[::-1], 0), ((DOWN,), 0), (DOWN + DOWN[1:], 3),
    (DOWN[:1] + STILL[1:], 1), (STILL[:1] + DOWN[1:], 1), (STILL[:2] + DOWN[2:], 2), (DOWN[:2] + STILL[2:], 2),
    (DOWN[:1] + (None, None), 1), ((None, None, None), 0), ((DOWN[0], [], {}), 1), (DOWN + (None,), 3),
    # The second Q is of two numbers, as is its M, so it is the last P that does not fit.
    (placed(DOWN, 1, ((TWO,), ((TWO,), (ONE,)), (ONE, ONE))), 2), (placed(DOWN, 0, ((), ((), ()), (ONE, NIL))), 1),
    # Each triple is as it has to be, but something goes on from the last one.
    (placed(DOWN, 2, ((TWO,), ((ONE,),), (ONE,))), 2), ((((), ((),) * 6, (ONE,) * 6),), 0), (STILL[:5] + DOWN[:1], 3),
)
NO_CUTS = tuple(value for value in ANYTHING if not (type(value) is int and value == 1)) + (
    -2, 4, 5, 6, (), (1,), (2,), "1", "2", b"1", [1], ONE, TWO, DEEP, -HUGE * HUGE,
)
# Beside a table of three rows.
NO_SIZES = tuple((value, None) for value in ANYTHING) + (
    ((), None), ((0,), None), ((0, 0, 0), None), ((7,), None), ([1, 1], None), ((None,) * 3, None), ((-1, 0), 0),
    ((7, 0), 0), ((0, 7), 1), ((0, -1), 1), ((True, 1), 0), ((1, False), 1), ((None, 7), 0), ((6, "1"), 1),
    ((6, HUGE), 1), ((-HUGE, 6), 0), (((1,), 1), 0), ((1, [1]), 1), ((0, None), 1), ((7, 7), 0), ((6, ONE), 1),
    (("", ""), 0), ((0, DEEP), 1),
)
# Beside a carrier of the sizes (1, 1).
NO_BASES = tuple((value, None) for value in ANYTHING) + (
    ((), None), (((ONE,),), None), ((((ONE,),),) * 3, None), ([((ONE,),), ((ONE,),)], None), (((),) * 3, None),
    (((), ((ONE,),)), 0), ((((ONE,),), ()), 1), (((), ()), 0), ((((NIL,),), ((ONE,),)), 0), ((((ONE,),), ((NIL,),)), 1),
    ((((NIL,),), ((NIL,),)), 0), ((((ONE,),), ((ONE, NIL), (NIL, ONE))), 1), ((((ONE, ONE),), ((ONE,),)), 0),
    ((((ONE,),), ((ONE,), (ONE,))), 1), ((((ONE,),), [(ONE,)]), 1), ((((ONE,),), ([ONE],)), 1), ((((2, 2),),) * 2, 0),
    ((((ONE,),), (((2, 2),),)), 1), ((((ONE,),), ((True,),)), 1), ((ONE, ONE), 0), (((ONE,), (ONE,)), 0),
    ((((ONE,),), None), 1), ((None, None), 0), ((((ONE,),), "S"), 1), ((((HUGE, 1),), ((ONE,),)), 0), ((DEEP, DEEP), 0),
    ((((ONE,),), (((HUGE, HUGE),),)), 1), ((((ONE,),), ((),)), 1), ((((),), ((ONE,),)), 0), ((0, ((ONE,),)), 0),
)
BOTH = (DOWN, (ONE, ONE, ONE), STILL)
NO_CARRYINGS = ANYTHING + tuple(value for value, _ in NO_CARRIERS) + tuple(
    (carrier, (ONE, ONE, ONE), STILL) for carrier, _ in NO_CARRIERS) + tuple(
    (DOWN, (ONE, ONE, ONE), carrier) for carrier, _ in NO_CARRIERS) + tuple(
    (DOWN, row, STILL) for row, _ in NO_ROWS) + (
    (), BOTH[:2], BOTH + (STILL,), list(BOTH), (BOTH,), DOWN, (DOWN, STILL, STILL), ((ONE,) * 3, DOWN, STILL),
    (DOWN, (ONE,) * 3, STILL[:2]), (DOWN, (ONE,) * 2, STILL[:2]), (STILL[:2], (ONE,) * 3, DOWN), (DOWN, DOWN, DOWN),
    (STILL[:2], (ONE,) * 2, DOWN), (DOWN, (ONE,) * 3, STILL[:1] * 4), (STILL[:1] * 4, (ONE,) * 4, STILL[:1] * 5),
    (STILL[:1] * 7, (ONE,) * 7, STILL[:1] * 7), (STILL[:1] * 4, (ONE,) * 3, STILL[:1] * 4), (DOWN, [ONE] * 3, STILL),
    ((), (), ()), (None, None, None), DEEP,
)

# Beside the size 3, or a table of three rows.
NO_WEBS = tuple((value, None) for value in ANYTHING) + (
    ((), None), (((0, 1),), None), (((0, 1), (0, 2), (1, 2)), None), ((None,) * 3, None), ([(0, 1), (1, 2)], None),
    (DEEP, None), ((None, None), 0), ((0, 1), 0), (("01", "12"), 0), (([0, 1], (1, 2)), 0), (((0, 1), [1, 2]), 1),
    (((1, 0), (1, 2)), 0), (((0, 1), (2, 1)), 1), (((0, 0), (1, 2)), 0), (((0, 1), (2, 2)), 1), (((0, 3), (1, 2)), 0),
    (((0, 1), (1, 3)), 1), (((-1, 0), (1, 2)), 0), (((0, 1), (-1, 2)), 1), (((0, 1), (0, 1)), 1),
    (((0, 2), (0, 1)), 1), (((1, 2), (0, 1)), 1), (((1, 2), (0, 2)), 1), (((0, True), (0, 2)), 0),
    (((False, 1), (0, 2)), 0), (((0, 1), (True, 2)), 1), (((0, 1, 2), (1, 2)), 0), (((0, 1), (1,)), 1),
    (((0, 1), ()), 1), (((0, 1), None), 1), (((0, HUGE), (0, 1)), 0), (((-HUGE, 1), (0, 1)), 0), ((DEEP, (0, 1)), 0),
    (((0, 1), DEEP), 1), (((0, (1,)), (0, 2)), 0), (((0, "1"), (0, 2)), 0), (((None, 1), (0, 2)), 0), (((), ()), 0),
)
# Beside the size 3.
NO_STAIRS = tuple((value, None) for value in ANYTHING) + (
    ((), None), (((),) * 7, None), (((ONE,),) * 7, None), ((None,) * 7, None), ([(ONE,)], None), ([(), (ONE,)], None),
    ((None,), 0), ((0, 1), 0), (("", ""), 0), (([],), 0), (((), []), 1), (((ONE,), [ONE]), 1), (((ONE,) * 4,), 0),
    (((), (ONE,) * 4), 1), (((ONE,), ()), 1), (((ONE, ONE), (ONE,)), 1), (((), (ONE, ONE), (ONE,)), 2), (ONE, 0),
    ((ONE, ONE), 0), (((1,),), 0), (((True,),), 0), (((), ((1, True),)), 1), (((), ((2, 2),)), 1),
    (((ONE,), (ONE, (1, 0))), 1), (((ONE,), (ONE, (1, -1))), 1), (((ONE,), (ONE, (1, 1, 1))), 1), (DEEP, 0),
    (((ONE,), ([1, 1],)), 1), (((ONE,), (None,)), 1), (((), (), (), (), (), ((HUGE, HUGE),)), 5), (((), None, 0), 1),
    (((ONE, ONE, ONE), (ONE, ONE)), 1), (((), {}), 1), (((), range(0)), 1), (((ONE,), (ONE, ONE), ((0, 2),)), 2),
)
NO_BANDS = ANYTHING + (
    (), ((),), ((None,),), (None,), (None, None), ((), ()), (ONE,), ((ONE, ONE),), ((ONE,), (ONE,)), DEEP, ([ONE],),
    [(ONE,)], ((1,),), ((True,),), (((2, 2),),), (((1, True),),), (((1, 0),),), ((ONE, None), (None, None)),
    ((None, None), (None, ONE)), ((ONE, None), (ONE, ONE)), ((ONE, ONE), (None, ONE)), ((ONE, ONE), [ONE, ONE]),
    ((ONE, None), (None, (2, 2))), ((None, ONE), (ONE, None)), ((ONE, 0), (0, ONE)), ((ONE, False), (False, ONE)),
    ((ONE, ()), ((), ONE)), ((ONE, ONE, None), (ONE, ONE, ONE), (ONE, ONE, ONE)), ((ONE, None), (None, ONE, None)),
    ((ONE, ONE, ONE), (ONE, ONE, ONE), (None, ONE, ONE)), ((ONE, None, ONE), (None, ONE, None), (ONE, None, ONE)),
    ((ONE, None, None), (None, ONE, ONE), (None, ONE, ONE)), ((ONE, ONE, None), (ONE, None, ONE), (None, ONE, ONE)),
    ((ONE, ONE, None), (ONE, ONE, None), (None, None, ONE)), ((ONE,) * 7,) * 7, ((None,) * 6,) * 6, ((ONE,) * 6,) * 5,
    ((ONE, ONE, None), (ONE, ONE, ONE)), ((ONE, ONE, None), (ONE, ONE, ONE), (None, ONE, (HUGE, HUGE))), CHAIN[:2],
    tuple(tuple(ONE if i == j else None for j in range(7)) for i in range(7)), ((ONE, None), None),
)


def no_numbers(least, most):
    """What is no whole number from the one to the other."""
    return tuple(value for value in ANYTHING if not (type(value) is int and least <= value <= most)) + (
        least - 1, most + 1, least - 2, 10 * most + 10, (), (least,), ((least,),), str(most), b"1", [most], ONE, TWO, DEEP,
        HUGE * HUGE, -HUGE * HUGE, {most: most}, {most}, True, False, None,
    )


def given(name, values):
    return [(name, "given", value, value) for value in values]


def index(name, values):
    return [(name, "index", value, told) for value, told in values]


TABLE, OTHER = given("InvalidTable", NO_TABLES), given("InvalidTable", NO_TABLES)
SQUARE, ROW = given("InvalidSquare", NO_SQUARES), index("InvalidRow", NO_ROWS)
LOWS, HIGHS = index("InvalidRanks", NO_LOWS), index("InvalidRanks", NO_HIGHS)
COLUMN, CUT = index("InvalidRow", NO_COLUMNS), given("InvalidNumber", NO_CUTS)
CARRIER, CARRYING = index("InvalidCarrier", NO_CARRIERS), given("InvalidCarrying", NO_CARRYINGS)
SIZES, BASES = index("InvalidSizes", NO_SIZES), index("InvalidBases", NO_BASES)

WEB, STAIRS = index("InvalidWeb", NO_WEBS), index("InvalidStairs", NO_STAIRS)
BAND, SIZE = given("InvalidBand", NO_BANDS), given("InvalidNumber", no_numbers(1, 6))
PLACE, RANK = given("InvalidNumber", no_numbers(0, 2)), given("InvalidNumber", no_numbers(0, 6))
# For a parameter for which no error is told.
NOTHING = ()
PATH, STAR = ((0, 1), (1, 2)), ((0, 1), (0, 2))
STEPS = ((ONE,), (ONE, TWO))
TOLD = ((TWO, LESS, None), (LESS, TWO, LESS), (None, LESS, TWO))


def lot_of(many):
    return given("InvalidLot", no_lots(many))


# module, function, ((parameter, a right value, the wrong ones), ..)
FUNCTIONS = (
    ("tables", "turned_over", (("table", WIDE, TABLE),)),
    ("tables", "product", (("table", LONG, TABLE), ("other", CHAIN, OTHER))),
    ("tables", "part", (("table", WIDE, TABLE), ("rows", (1,), lot_of(2)), ("columns", (0, 2), lot_of(3)))),
    ("tables", "rank_of", (("table", WIDE, TABLE),)),
    ("tables", "part_rank", (("table", WIDE, TABLE), ("rows", (0, 1), lot_of(2)), ("columns", (2,), lot_of(3)))),
    ("tables", "nullity", (("table", WIDE, TABLE), ("rows", (), lot_of(2)), ("columns", (0, 1, 2), lot_of(3)))),
    ("tables", "rank_pair", (("table", WIDE, TABLE),)),
    ("tables", "regular_part", (("table", WIDE, TABLE), ("rows", (0, 1), lot_of(2)), ("columns", (), lot_of(3)))),
    ("inverses", "is_regular", (("square", CHAIN, SQUARE),)),
    ("inverses", "determinant", (("square", CHAIN, SQUARE),)),
    ("inverses", "inverse", (("square", CHAIN, SQUARE),)),
    ("inverses", "solved", (("square", CHAIN, SQUARE), ("row", (ONE, NIL, HALF), ROW))),
    ("inverses", "null_row", (("square", SINGULAR, SQUARE),)),
    ("corners", "low_ranks", (("square", CHAIN, SQUARE),)),
    ("corners", "high_ranks", (("square", CHAIN, SQUARE),)),
    ("corners", "are_ranks", (("lows", (0, 1, 0), LOWS), ("highs", (1, 2, 1), HIGHS))),
    ("corners", "table_with", (("lows", (0, 1, 0), LOWS), ("highs", (1, 2, 1), HIGHS))),
    ("left", "left_of", (
        ("table", WIDE, TABLE), ("rows", (1,), lot_of(2) + given("InvalidLot", [(0, 1)])),
        ("columns", (2,), lot_of(3) + given("InvalidLot", [(0, 1, 2), (), (0, 1), (0, 2)])))),
    ("left", "stairs_pair", (("square", CHAIN, SQUARE),)),
    ("left", "raised", (("table", WIDE, TABLE), ("column", (ONE, HALF), COLUMN), ("row", (ONE, NIL, HALF), ROW))),
    ("carriers", "sizes_of", (("carrier", DOWN, CARRIER),)),
    ("carriers", "carried", (("carrier", DOWN, CARRIER),)),
    ("carriers", "carry", (("carrier", DOWN, CARRIER), ("row", (ONE, NIL, HALF), ROW))),
    ("carriers", "coming", (("carrier", DOWN, CARRIER), ("cut", 2, CUT))),
    ("carriers", "going", (("carrier", DOWN, CARRIER), ("cut", 1, CUT))),
    ("carriers", "is_least_carrier", (("carrier", DOWN, CARRIER),)),
    ("carriers", "least_carrier", (("square", CHAIN, SQUARE),)),
    ("carriers", "carrier_with", (("square", CHAIN, SQUARE), ("sizes", (1, 6), SIZES))),
    ("carriers", "made_least", (("carrier", DOWN, CARRIER),)),
    ("carriers", "bases_between", (("carrier", DOWN, CARRIER), ("other", DOWN, CARRIER))),
    ("carriers", "rebased", (("carrier", DOWN, CARRIER), ("bases", (((TWO,),), ((HALF,),)), BASES))),
    ("carryings", "table_of", (("carrying", BOTH, CARRYING),)),
    ("carryings", "least_carrying", (("square", CHAIN, SQUARE),)),
    ("carryings", "is_least", (("carrying", BOTH, CARRYING),)),
    ("carryings", "turned_round", (("carrying", BOTH, CARRYING),)),
    ("carryings", "sum_of", (("carrying", BOTH, CARRYING), ("other", (STILL, (ONE, ONE, TWO), DOWN), CARRYING))),
    ("carryings", "product_of", (("carrying", BOTH, CARRYING), ("other", (STILL, (ONE, ONE, TWO), DOWN), CARRYING))),
    ("carryings", "inverse_of", (("carrying", BOTH, CARRYING),)),
    ("carryings", "solved_by", (("carrying", BOTH, CARRYING), ("row", (ONE, NIL, HALF), ROW))),
    ("carryings", "part_of", (("carrying", BOTH, CARRYING), ("places", (0, 2), lot_of(3) + given("InvalidLot", [()])))),
    ("shapes", "width_below", (("square", CHAIN, SQUARE),)),
    ("shapes", "width_above", (("square", CHAIN, SQUARE),)),
    ("shapes", "inverse_width_below", (("square", CHAIN, SQUARE),)),
    ("shapes", "inverse_width_above", (("square", CHAIN, SQUARE),)),
    ("shapes", "has_noughts", (("square", HILL, SQUARE), ("rows", (1,), lot_of(3)), ("columns", (0, 2), lot_of(3)))),
    ("shapes", "half_pair", (("square", HILL, SQUARE),)),
    ("shapes", "is_half_pair", (
        ("square", HILL, SQUARE), ("row", (ONE, NIL, HALF), ROW), ("other", (ONE, ONE, TWO), ROW))),
    ("webs", "is_web", (("size", 3, SIZE), ("value", PATH, NOTHING))),
    ("webs", "way", (("size", 3, SIZE), ("web", STAR, WEB), ("first", 1, PLACE), ("second", 2, PLACE))),
    ("webs", "has_web_inverse", (("square", HILL, SQUARE), ("web", PATH, WEB))),
    ("webs", "web_break", (("square", HILL, SQUARE), ("web", STAR, WEB))),
    ("fillings", "is_stairs", (("size", 3, SIZE), ("value", STEPS, NOTHING))),
    ("fillings", "is_filling", (("size", 3, SIZE), ("stairs", STEPS, STAIRS), ("value", WIDE, NOTHING))),
    ("fillings", "least_rank", (("size", 3, SIZE), ("stairs", STEPS, STAIRS))),
    ("fillings", "greatest_rank", (("size", 3, SIZE), ("stairs", STEPS, STAIRS))),
    ("fillings", "least_filling", (("size", 3, SIZE), ("stairs", STEPS, STAIRS))),
    ("fillings", "greatest_filling", (("size", 3, SIZE), ("stairs", STEPS, STAIRS))),
    ("fillings", "filling_of_rank", (("size", 3, SIZE), ("stairs", STEPS, STAIRS), ("rank", 2, RANK))),
    ("fillings", "has_one_least", (("size", 3, SIZE), ("stairs", STEPS, STAIRS))),
    ("fillings", "band_filling", (("band", TOLD, BAND),)),
    ("fillings", "band_determinant", (("band", TOLD, BAND),)),
    ("checker", "accepts", (("claim", ("web", HILL, PATH), NOTHING), ("paper", (), NOTHING))),
    ("certificates", "certify_rank", (
        ("table", WIDE, TABLE), ("rows", (0, 1), lot_of(2)), ("columns", (0, 2), lot_of(3)), ("bound", 1, RANK))),
    ("certificates", "certify_regular", (("square", CHAIN, SQUARE),)),
    ("certificates", "certify_ranks", (("lows", (0, 1, 0), LOWS), ("highs", (1, 2, 1), HIGHS))),
    ("certificates", "certify_sizes", (("square", CHAIN, SQUARE), ("sizes", (1, 0), SIZES))),
    ("certificates", "certify_bases", (("carrier", DOWN, CARRIER), ("other", DOWN, CARRIER))),
    ("certificates", "certify_least", (("carrier", DOWN, CARRIER),)),
    ("certificates", "certify_noughts", (
        ("square", HILL, SQUARE), ("rows", (2,), lot_of(3)), ("columns", (0,), lot_of(3)))),
    ("certificates", "certify_half_pair", (("square", HILL, SQUARE),)),
    ("certificates", "certify_web", (("square", HILL, SQUARE), ("web", STAR, WEB))),
    ("certificates", "certify_filled", (("size", 3, SIZE), ("stairs", STEPS, STAIRS), ("rank", 0, RANK))),
)
# The functions that tell of any value whether it is something.
ASKING = (("tables", "is_table"), ("carriers", "is_carrier"), ("carryings", "is_carrying"), ("fillings", "is_band"))
# The claims that each certificate may give.
TELLING = {
    "certify_rank": ("rank up to", "rank from"), "certify_regular": ("regular", "singular"),
    "certify_ranks": ("some table", "no table"), "certify_sizes": ("carried", "not carried"),
    "certify_bases": ("one in two bases", "unlike numbers"), "certify_least": ("least", "wide"),
    "certify_noughts": ("noughts", "no noughts"), "certify_half_pair": ("half pair", "no half pair"),
    "certify_web": ("web", "web broken"), "certify_filled": ("filled", "fillings from", "fillings up to"),
}
