"""Arguments and errors (points 3, 4 and 5), for each function of the interface."""

import copy
import inspect
import unittest
from importlib import import_module

from cornerranks import errors
from samples import CHAIN, FLAT, HALF, LESS, LONG, NIL, ONE, TWO, built_again, is_plain

HUGE = 10 ** 399 + 7
DEEP = (((((((((((((),),),),),),),),),),),),)
WIDE = ((ONE, TWO, HALF), (LESS, NIL, ONE))
SINGULAR = ((ONE, TWO, NIL), (TWO, (4, 1), NIL), (NIL, NIL, ONE))

# What is no tuple at all, of many kinds.
ANYTHING = (
    None, True, False, 0, 1, 3, -1, HUGE, -HUGE, "", "abc", b"", b"abc", [], {}, set(), frozenset(), range(3), object(),
    len, ValueError, [ONE], [0, 1], [0, 1, 2], {"a": 1}, {0: ONE, 1: ONE, 2: ONE}, (lambda: 0),
)

NO_TABLES = ANYTHING + (
    (), ((),), (0,), (0, 1), DEEP, ONE, (ONE,), (ONE, ONE), (None,), ("a", "b"), ([ONE],), [(ONE,)], ((ONE,), [ONE]),
    ((ONE,), (ONE, ONE)), ((ONE,),) * 7, ((ONE,) * 7,) * 7, ((ONE, True),), (((1, True),),), (((2, 2),),),
    (((1, -1),),), (((1, 0),),), (((1, 1, 1),),), (((HUGE, HUGE),),),
)
NO_SQUARES = NO_TABLES + (LONG, WIDE, ((ONE,), (ONE,)), ((ONE,) * 6,) * 5)


def no_lots(many):
    """What is no lot of so many, none of them a tuple of one element from 0 to many - 1."""
    return ANYTHING + (
        (many,), (0, many), (-1,), (-1, 0), (HUGE,), (0, HUGE), (0, 0), (1, 0), (0, 1, 1), (True,), (False,),
        (False, True), (0, True), (None,), ("0",), ("a",), (b"a",), ([],), ((),), ((0,),), (0, (1,)), DEEP,
        tuple(range(many + 1)), tuple(range(many))[::-1], (0, None), (0, "1"),
    )


# (value, the index that is told), for a row of three numbers.
NO_ROWS = tuple((value, None) for value in ANYTHING) + (
    ((), None), ((ONE,), None), ((ONE, ONE), None), ((ONE,) * 4, None), (DEEP, None), ([ONE, ONE, ONE], None),
    (((2, 2), None), None), ((None, ONE, ONE), 0), ((1, ONE, ONE), 0), ((ONE, True, ONE), 1), ((ONE, ONE, (1, 0)), 2),
    ((ONE, (2, 4), (1, 0)), 1), ((ONE, [1, 1], ONE), 1), (((1, True), ONE, ONE), 0), ((ONE, ONE, (1, -1)), 2),
    ((ONE, ONE, (1, 1, 1)), 2), ((None, None, None), 0), ((ONE, DEEP, ONE), 1), ((ONE, ONE, (HUGE, HUGE)), 2),
    ((ONE, ONE, "11"), 2), ((0, 1, 2), 0), ((NIL, (0, 2), NIL), 1), ((NIL, NIL, ()), 2),
)

NO_LOWS = tuple((value, None) for value in ANYTHING) + (
    ((0,) * 6, None), ((0,) * 7, None), ((None,) * 6, None), ([0, 1], None), ((-1,), 0), ((7,), 0), ((0, 7), 1),
    ((0, 0, -1), 2), ((True,), 0), ((0, False), 1), ((0, 1, None, 7), 2), ((None,), 0), (("1",), 0), ((0, HUGE), 1),
    ((0, 1, 2, 3, 7), 4), ((6, 6, 6, 6, -HUGE), 4), (((),), 0), ((0, (0,)), 1), (([],), 0), (DEEP, 0), ((0, 0, ONE), 2),
)
# Beside lows of three numbers.
NO_HIGHS = tuple((value, None) for value in ANYTHING) + (
    ((), None), ((0,), None), ((0, 0), None), ((0,) * 4, None), ((7, 7), None), ((None,) * 4, None), ([0, 0, 0], None),
    ((-1, 0, 0), 0), ((0, 7, 0), 1), ((0, 0, HUGE), 2), ((True, 0, 0), 0), ((0, 0, False), 2), ((0, None, 7), 1),
    (("0", 0, 0), 0), ((0, (), 0), 1), ((0, 0, [0]), 2), ((6, 6, 7), 2), ((DEEP, 0, 0), 0),
)


def given(name, values):
    return [(name, "given", value, value) for value in values]


def index(name, values):
    return [(name, "index", value, told) for value, told in values]


TABLE, OTHER = given("InvalidTable", NO_TABLES), given("InvalidTable", NO_TABLES)
SQUARE, ROW = given("InvalidSquare", NO_SQUARES), index("InvalidRow", NO_ROWS)
LOWS, HIGHS = index("InvalidRanks", NO_LOWS), index("InvalidRanks", NO_HIGHS)


def lot_of(many):
    return given("InvalidLot", no_lots(many))


# module, function, ((parameter, a right value, the wrong ones), ..)
FUNCTIONS = (
    ("tables", "turned_over", (("table", WIDE, TABLE),)),
    ("tables", "product", (("table", LONG, TABLE), ("other", CHAIN, OTHER))),
    ("tables", "part", (("table", WIDE, TABLE), ("rows", (1,), lot_of(2)), ("columns", (0, 2), lot_of(3)))),
    ("tables", "rank_of", (("table", WIDE, TABLE),)),
    ("tables", "part_rank", (("table", WIDE, TABLE), ("rows", (0, 1), lot_of(2)), ("columns", (2,), lot_of(3)))),
    ("tables", "nullity", (("table", WIDE, TABLE), ("rows", (), lot_of(2)), ("columns", (0, 1, 2), lot_of(3)))),
    ("tables", "rank_pair", (("table", WIDE, TABLE),)),
    ("tables", "regular_part", (("table", WIDE, TABLE), ("rows", (0, 1), lot_of(2)), ("columns", (), lot_of(3)))),
    ("inverses", "is_regular", (("square", CHAIN, SQUARE),)),
    ("inverses", "determinant", (("square", CHAIN, SQUARE),)),
    ("inverses", "inverse", (("square", CHAIN, SQUARE),)),
    ("inverses", "solved", (("square", CHAIN, SQUARE), ("row", (ONE, NIL, HALF), ROW))),
    ("inverses", "null_row", (("square", SINGULAR, SQUARE),)),
    ("corners", "low_ranks", (("square", CHAIN, SQUARE),)),
    ("corners", "high_ranks", (("square", CHAIN, SQUARE),)),
    ("corners", "are_ranks", (("lows", (0, 1, 0), LOWS), ("highs", (1, 2, 1), HIGHS))),
    ("corners", "table_with", (("lows", (0, 1, 0), LOWS), ("highs", (1, 2, 1), HIGHS))),
)


def function_of(module, name):
    return getattr(import_module("cornerranks." + module), name)


def copied(value):
    """What stands in the value now, for lists, dicts and sets."""
    return copy.copy(value) if isinstance(value, (list, dict, set)) else None


class Case(unittest.TestCase):
    def told(self, call, wrong):
        """Whether the call raises just the error that is told for a wrong value."""
        name, attribute, _, expected = wrong
        with self.assertRaises(errors.CornerError) as caught:
            call()
        self.assertIs(type(caught.exception), getattr(errors, name))
        if attribute == "given" or expected is None:
            self.assertIs(getattr(caught.exception, attribute), expected)
        else:
            self.assertEqual(getattr(caught.exception, attribute), expected)
            self.assertIs(type(getattr(caught.exception, attribute)), int)

    def refused(self, function, names, values, wrong):
        self.told(lambda: function(*values), wrong)
        self.told(lambda: function(**dict(zip(names, values))), wrong)


class Interface(Case):
    def test_functions_stand_in_their_files(self):
        listed = [(module, name, [at for at, _, _ in parameters]) for module, name, parameters in FUNCTIONS]
        for module, name, parameters in listed + [("tables", "is_table", ["value"])]:
            with self.subTest(name):
                function = function_of(module, name)
                self.assertTrue(inspect.isfunction(function))
                self.assertEqual((function.__module__, function.__name__), ("cornerranks." + module, name))
                self.assertEqual(list(inspect.signature(function).parameters), parameters)

    def test_position_and_name_are_the_same(self):
        for module, name, parameters in FUNCTIONS:
            with self.subTest(name):
                function = function_of(module, name)
                names = [at for at, _, _ in parameters]
                values = [value for _, value, _ in parameters]
                told = function(*values)
                self.assertEqual(function(**dict(zip(names, values))), told)
                self.assertEqual(function(**dict(zip(names[::-1], values[::-1]))), told)
                self.assertEqual(function(values[0], **dict(zip(names[1:], values[1:]))), told)

    def test_equal_calls_have_equal_results(self):
        for module, name, parameters in FUNCTIONS:
            with self.subTest(name):
                function = function_of(module, name)
                values = [value for _, value, _ in parameters]
                told = function(*values)
                self.assertTrue(isinstance(told, bool) or is_plain(told))
                self.assertEqual(function(*[built_again(value) for value in values]), told)
                self.assertEqual(repr(function(*values)), repr(told))


class Wrong(Case):
    def test_each_argument_wrong(self):
        for module, name, parameters in FUNCTIONS:
            function = function_of(module, name)
            names = [at for at, _, _ in parameters]
            for place, (_, _, wrongs) in enumerate(parameters):
                for wrong in wrongs:
                    values = [value for _, value, _ in parameters]
                    values[place] = wrong[2]
                    with self.subTest(name, values=values):
                        before = copied(wrong[2])
                        self.refused(function, names, values, wrong)
                        self.assertTrue(before is None or before == wrong[2])

    def test_two_arguments_wrong(self):
        for module, name, parameters in FUNCTIONS:
            function = function_of(module, name)
            names = [at for at, _, _ in parameters]
            for first in range(len(parameters)):
                for second in range(first + 1, len(parameters)):
                    firsts, seconds = parameters[first][2], parameters[second][2]
                    for step, wrong in enumerate(firsts):
                        values = [value for _, value, _ in parameters]
                        values[first] = wrong[2]
                        values[second] = seconds[step % len(seconds)][2]
                        with self.subTest(name, values=values):
                            self.refused(function, names, values, wrong)

    def test_all_arguments_wrong(self):
        for module, name, parameters in FUNCTIONS:
            names = [at for at, _, _ in parameters]
            error, attribute, _, _ = parameters[0][2][0]
            for value in ANYTHING:
                with self.subTest(name, value=value):
                    wrong = (error, attribute, value, value if attribute == "given" else None)
                    self.refused(function_of(module, name), names, [value] * len(names), wrong)


class Lots(Case):
    def test_each_lot_has_its_own_number(self):
        for name in ("part", "part_rank", "nullity", "regular_part"):
            function = function_of("tables", name)
            function(WIDE, (0, 1), (0, 1, 2))
            self.told(lambda: function(WIDE, (2,), (2,)), ("InvalidLot", "given", None, (2,)))
            tall = ((ONE,), (NIL,), (TWO,))
            function(tall, (2,), (0,))
            wrong = built_again((0, 1))
            self.told(lambda: function(tall, (2,), wrong), ("InvalidLot", "given", None, wrong))


class Rows(Case):
    def test_rows_of_one_and_of_six(self):
        solved = function_of("inverses", "solved")
        one = ((TWO,),)
        for row, told in ((DEEP, 0), ((None,), 0), (((2, 2),), 0), ((), None), ((ONE, ONE), None), (ONE, None)):
            self.told(lambda: solved(one, row), ("InvalidRow", "index", None, told))
        six = tuple(tuple(ONE if i == j else NIL for j in range(6)) for i in range(6))
        for place in range(6):
            row = tuple(None if k >= place else ONE for k in range(6))
            self.told(lambda: solved(six, row), ("InvalidRow", "index", None, place))


class Ranks(Case):
    def test_each_number_counts(self):
        for name in ("are_ranks", "table_with"):
            function = function_of("corners", name)
            for many in range(1, 6):
                good = (6,) * many
                for place in range(many):
                    for wrong in (-1, 7, True, None):
                        bad = (0,) * place + (wrong,) * (many - place)
                        self.told(lambda: function(bad, good), ("InvalidRanks", "index", None, place))
                        self.told(lambda: function(good, bad), ("InvalidRanks", "index", None, place))

    def test_bounds_are_let_in(self):
        for name, told in (("are_ranks", False), ("table_with", None)):
            self.assertIs(function_of("corners", name)((6, 0, 6), (0, 6, 0)), told)
            self.assertIs(function_of("corners", name)((6,) * 5, (0,) * 5), told)

    def test_numbers_before_lengths_of_the_other_one(self):
        for name in ("are_ranks", "table_with"):
            function = function_of("corners", name)
            self.told(lambda: function((0, 7), (0,)), ("InvalidRanks", "index", None, 1))
            self.told(lambda: function((0, 6), (7,)), ("InvalidRanks", "index", None, None))
            self.told(lambda: function((), (0,)), ("InvalidRanks", "index", None, None))


class Last(Case):
    def raised(self, name, function, *values):
        with self.assertRaises(errors.CornerError) as caught:
            function(*values)
        self.assertIs(type(caught.exception), getattr(errors, name))

    def test_unlike_sizes(self):
        product = function_of("tables", "product")
        for table, other in ((CHAIN, FLAT), (LONG, LONG), (CHAIN, WIDE), (FLAT, CHAIN), (WIDE, WIDE), (WIDE, FLAT)):
            self.raised("UnlikeSizes", product, table, other)
        self.assertEqual(len(product(WIDE, CHAIN)), 2)
        self.raised("InvalidTable", product, CHAIN, ((ONE,), (True,)))

    def test_not_regular(self):
        inverse, solved = function_of("inverses", "inverse"), function_of("inverses", "solved")
        for table in (((NIL,),), FLAT, SINGULAR, ((NIL,) * 6,) * 6):
            self.raised("NotRegular", inverse, table)
            self.raised("NotRegular", solved, table, (NIL,) * len(table))
            self.raised("NotRegular", solved, table, tuple(row[0] for row in table))

    def test_a_wrong_row_is_told_ahead_of_a_singular_table(self):
        solved = function_of("inverses", "solved")
        for row, told in NO_ROWS:
            self.told(lambda: solved(SINGULAR, row), ("InvalidRow", "index", row, told))

    def test_singular_tables_are_no_error_elsewhere(self):
        self.assertEqual(function_of("inverses", "determinant")(SINGULAR), NIL)
        self.assertIs(function_of("inverses", "is_regular")(SINGULAR), False)
        self.assertEqual(function_of("corners", "low_ranks")(SINGULAR), (1, 0))
        self.assertEqual(function_of("corners", "high_ranks")(SINGULAR), (1, 0))


class Returned(Case):
    def test_long_numbers_that_were_returned_may_be_passed(self):
        determinant, inverse = function_of("inverses", "determinant"), function_of("inverses", "inverse")
        great = (((HUGE, 2), (1, HUGE), ONE), (LESS, (HUGE, 3), TWO), ((-HUGE, 5), NIL, (5, HUGE)))
        told = inverse(great)
        self.assertGreater(max(len(bin(n)) for row in told for pair in row for n in pair), 4 * 400)
        self.assertEqual(inverse(told), great)
        self.assertEqual(function_of("tables", "rank_of")(told), 3)
        top, bottom = determinant(great)
        self.assertEqual(determinant(told), (bottom, top) if top > 0 else (-bottom, -top))
        self.assertEqual(function_of("corners", "low_ranks")(told), function_of("corners", "low_ranks")(great))

    def test_an_error_of_long_numbers(self):
        wrong = ((((HUGE ** 20, HUGE ** 20),),),)
        with self.assertRaises(errors.InvalidTable) as caught:
            function_of("tables", "rank_of")(wrong)
        self.assertIs(caught.exception.given, wrong)
        self.assertIsInstance(str(caught.exception), str)


if __name__ == "__main__":
    unittest.main()
