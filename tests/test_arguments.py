"""Arguments and errors (points 3, 4 and 5), for each function of the interface."""

import copy
import inspect
import unittest
from importlib import import_module

from cornerranks import errors
from samples import CHAIN, DOWN, FLAT, LESS, LONG, NIL, ONE, STILL, TWO, built_again, is_plain
from wrongs import (
    ANYTHING, ASKING, BOTH, DEEP, FUNCTIONS, HUGE, NO_ROWS, NO_TABLES, SINGULAR, WIDE, no_lots, placed, wrong_carriers)


def function_of(module, name):
    return getattr(import_module("cornerranks." + module), name)


def copied(value):
    """What stands in the value now, for lists, dicts and sets."""
    return copy.copy(value) if isinstance(value, (list, dict, set)) else None


def is_certificate(value):
    """Whether a value is a pair of a claim and a paper, of tuples, whole numbers and one text."""
    (word, *told), paper = value
    return type(value) is tuple and type(value[0]) is tuple and type(word) is str and is_plain((*told, paper))


class Case(unittest.TestCase):
    def told(self, call, wrong):
        """Whether the call raises just the error that is told for a wrong value."""
        name, attribute, _, expected = wrong
        with self.assertRaises(errors.CornerError) as caught:
            call()
        self.assertIs(type(caught.exception), getattr(errors, name))
        if attribute == "given" or expected is None:
            self.assertIs(getattr(caught.exception, attribute), expected)
        else:
            self.assertEqual(getattr(caught.exception, attribute), expected)
            self.assertIs(type(getattr(caught.exception, attribute)), int)

    def refused(self, function, names, values, wrong):
        self.told(lambda: function(*values), wrong)
        self.told(lambda: function(**dict(zip(names, values))), wrong)


class Interface(Case):
    def test_functions_stand_in_their_files(self):
        listed = [(module, name, [at for at, _, _ in parameters]) for module, name, parameters in FUNCTIONS]
        for module, name, parameters in listed + [(module, name, ["value"]) for module, name in ASKING]:
            with self.subTest(name):
                function = function_of(module, name)
                self.assertTrue(inspect.isfunction(function))
                self.assertEqual((function.__module__, function.__name__), ("cornerranks." + module, name))
                self.assertEqual(list(inspect.signature(function).parameters), parameters)

    def test_position_and_name_are_the_same(self):
        for module, name, parameters in FUNCTIONS:
            with self.subTest(name):
                function = function_of(module, name)
                names = [at for at, _, _ in parameters]
                values = [value for _, value, _ in parameters]
                told = function(*values)
                self.assertEqual(function(**dict(zip(names, values))), told)
                self.assertEqual(function(**dict(zip(names[::-1], values[::-1]))), told)
                self.assertEqual(function(values[0], **dict(zip(names[1:], values[1:]))), told)

    def test_equal_calls_have_equal_results(self):
        for module, name, parameters in FUNCTIONS:
            with self.subTest(name):
                function = function_of(module, name)
                values = [value for _, value, _ in parameters]
                told = function(*values)
                self.assertTrue(isinstance(told, bool) or is_plain(told) or is_certificate(told))
                self.assertEqual(function(*[built_again(value) for value in values]), told)
                self.assertEqual(repr(function(*values)), repr(told))


class Wrong(Case):
    def test_each_argument_wrong(self):
        for module, name, parameters in FUNCTIONS:
            function = function_of(module, name)
            names = [at for at, _, _ in parameters]
            for place, (_, _, wrongs) in enumerate(parameters):
                for wrong in wrongs:
                    values = [value for _, value, _ in parameters]
                    values[place] = wrong[2]
                    with self.subTest(name, values=values):
                        before = copied(wrong[2])
                        self.refused(function, names, values, wrong)
                        self.assertTrue(before is None or before == wrong[2])

    def test_two_arguments_wrong(self):
        for module, name, parameters in FUNCTIONS:
            function = function_of(module, name)
            names = [at for at, _, _ in parameters]
            for first in range(len(parameters)):
                for second in range(first + 1, len(parameters)):
                    firsts, seconds = parameters[first][2], parameters[second][2]
                    for step, wrong in enumerate(firsts if seconds else ()):
                        values = [value for _, value, _ in parameters]
                        values[first] = wrong[2]
                        values[second] = seconds[step % len(seconds)][2]
                        with self.subTest(name, values=values):
                            self.refused(function, names, values, wrong)

    def test_all_arguments_wrong(self):
        for module, name, parameters in FUNCTIONS:
            names = [at for at, _, _ in parameters]
            for wrong in parameters[0][2]:
                if any(wrong[2] is value for value in ANYTHING):
                    with self.subTest(name, value=wrong[2]):
                        self.refused(function_of(module, name), names, [wrong[2]] * len(names), wrong)


class Lots(Case):
    def test_each_lot_has_its_own_number(self):
        for name in ("part", "part_rank", "nullity", "regular_part"):
            function = function_of("tables", name)
            function(WIDE, (0, 1), (0, 1, 2))
            self.told(lambda: function(WIDE, (2,), (2,)), ("InvalidLot", "given", None, (2,)))
            tall = ((ONE,), (NIL,), (TWO,))
            function(tall, (2,), (0,))
            wrong = built_again((0, 1))
            self.told(lambda: function(tall, (2,), wrong), ("InvalidLot", "given", None, wrong))


class Rows(Case):
    def test_rows_of_one_and_of_six(self):
        solved = function_of("inverses", "solved")
        one = ((TWO,),)
        for row, told in ((DEEP, 0), ((None,), 0), (((2, 2),), 0), ((), None), ((ONE, ONE), None), (ONE, None)):
            self.told(lambda: solved(one, row), ("InvalidRow", "index", None, told))
        six = tuple(tuple(ONE if i == j else NIL for j in range(6)) for i in range(6))
        for place in range(6):
            row = tuple(None if k >= place else ONE for k in range(6))
            self.told(lambda: solved(six, row), ("InvalidRow", "index", None, place))


class Ranks(Case):
    def test_each_number_counts(self):
        for name in ("are_ranks", "table_with"):
            function = function_of("corners", name)
            for many in range(1, 6):
                good = (6,) * many
                for place in range(many):
                    for wrong in (-1, 7, True, None):
                        bad = (0,) * place + (wrong,) * (many - place)
                        self.told(lambda: function(bad, good), ("InvalidRanks", "index", None, place))
                        self.told(lambda: function(good, bad), ("InvalidRanks", "index", None, place))

    def test_bounds_are_let_in(self):
        for name, told in (("are_ranks", False), ("table_with", None)):
            self.assertIs(function_of("corners", name)((6, 0, 6), (0, 6, 0)), told)
            self.assertIs(function_of("corners", name)((6,) * 5, (0,) * 5), told)

    def test_numbers_before_lengths_of_the_other_one(self):
        for name in ("are_ranks", "table_with"):
            function = function_of("corners", name)
            self.told(lambda: function((0, 7), (0,)), ("InvalidRanks", "index", None, 1))
            self.told(lambda: function((0, 6), (7,)), ("InvalidRanks", "index", None, None))
            self.told(lambda: function((), (0,)), ("InvalidRanks", "index", None, None))


class Last(Case):
    def raised(self, name, function, *values):
        with self.assertRaises(errors.CornerError) as caught:
            function(*values)
        self.assertIs(type(caught.exception), getattr(errors, name))

    def test_unlike_sizes(self):
        product = function_of("tables", "product")
        for table, other in ((CHAIN, FLAT), (LONG, LONG), (CHAIN, WIDE), (FLAT, CHAIN), (WIDE, WIDE), (WIDE, FLAT)):
            self.raised("UnlikeSizes", product, table, other)
        self.assertEqual(len(product(WIDE, CHAIN)), 2)
        self.raised("InvalidTable", product, CHAIN, ((ONE,), (True,)))

    def test_not_regular(self):
        inverse, solved = function_of("inverses", "inverse"), function_of("inverses", "solved")
        for table in (((NIL,),), FLAT, SINGULAR, ((NIL,) * 6,) * 6):
            self.raised("NotRegular", inverse, table)
            self.raised("NotRegular", solved, table, (NIL,) * len(table))
            self.raised("NotRegular", solved, table, tuple(row[0] for row in table))

    def test_a_wrong_row_is_told_ahead_of_a_singular_table(self):
        solved = function_of("inverses", "solved")
        for row, told in NO_ROWS:
            self.told(lambda: solved(SINGULAR, row), ("InvalidRow", "index", row, told))

    def test_not_regular_behind_a_wrong_lot_or_row(self):
        noughts = ((NIL,) * 3,) * 3
        carrying = (STILL, (ONE, NIL, ONE), DOWN)
        for name, function, values in (
                ("NotRegular", function_of("left", "left_of"), (noughts, (0,), (1,))),
                ("NotRegular", function_of("carryings", "inverse_of"), (carrying,)),
                ("NotRegular", function_of("carryings", "solved_by"), (carrying, (ONE, NIL, NIL))),
                ("NotRegular", function_of("shapes", "inverse_width_below"), (SINGULAR,)),
                ("NotRegular", function_of("shapes", "inverse_width_above"), (SINGULAR,)),
                ("NotRegular", function_of("shapes", "half_pair"), (SINGULAR,)),
                ("NotRegular", function_of("shapes", "has_noughts"), (SINGULAR, (), (0, 1)))):
            self.raised(name, function, *values)
        for value in no_lots(3):
            wrong = ("InvalidLot", "given", value, value)
            self.told(lambda: function_of("shapes", "has_noughts")(SINGULAR, value, (7,)), wrong)
            self.told(lambda: function_of("shapes", "has_noughts")(SINGULAR, (0,), value), wrong)
            self.told(lambda: function_of("left", "left_of")(noughts, value, (0, 1, 2)), wrong)
            self.told(lambda: function_of("left", "left_of")(noughts, (0,), value), wrong)
        for row, told in NO_ROWS:
            self.told(lambda: function_of("carryings", "solved_by")(carrying, row), ("InvalidRow", "index", row, told))

    def test_not_least_behind_unlike_sizes(self):
        between = function_of("carriers", "bases_between")
        wide = function_of("carriers", "carrier_with")(CHAIN, (2, 2))
        self.raised("NotLeast", between, wide, DOWN)
        self.raised("NotLeast", between, DOWN, wide)
        self.raised("UnlikeSizes", between, wide, STILL[:2])
        self.raised("UnlikeSizes", between, STILL[:2], wide)
        self.raised("InvalidCarrier", between, wide, wide[:2])
        for name in ("sum_of", "product_of"):
            function = function_of("carryings", name)
            self.raised("UnlikeSizes", function, BOTH, (STILL[:2], (ONE, ONE), STILL[:2]))
            self.raised("UnlikeSizes", function, (STILL[:1], (ONE,), STILL[:1]), BOTH)
            self.raised("InvalidCarrying", function, BOTH, (STILL[:2], (ONE, ONE, ONE), STILL[:2]))

    def test_singular_tables_are_no_error_elsewhere(self):
        self.assertEqual(function_of("inverses", "determinant")(SINGULAR), NIL)
        self.assertIs(function_of("inverses", "is_regular")(SINGULAR), False)
        self.assertEqual(function_of("corners", "low_ranks")(SINGULAR), (1, 0))
        self.assertEqual(function_of("corners", "high_ranks")(SINGULAR), (1, 0))


class Carriers(Case):
    def test_the_first_triple_that_is_wrong(self):
        sizes_of = function_of("carriers", "sizes_of")
        for carrier in (STILL[:1] * 6, DOWN + STILL, (STILL + DOWN)[:6]):
            self.assertEqual(len(sizes_of(carrier)), 5)
            for value, told in wrong_carriers(carrier):
                self.told(lambda: sizes_of(value), ("InvalidCarrier", "index", value, told))
                # What stands behind the first wrong one is not looked at.
                for later in range(told + 1, 6):
                    worse = placed(value, later, None)
                    self.told(lambda: sizes_of(worse), ("InvalidCarrier", "index", worse, told))

    def test_no_cut_of_one_place(self):
        for name in ("coming", "going"):
            function = function_of("carriers", name)
            for cut in ANYTHING + (2,):
                self.told(lambda: function(STILL[:1], cut), ("InvalidNumber", "given", cut, cut))
                self.told(lambda: function((), cut), ("InvalidCarrier", "index", cut, None))

    def test_each_size_counts(self):
        carrier_with = function_of("carriers", "carrier_with")
        for many in range(2, 7):
            table = tuple(tuple(ONE if i == j else NIL for j in range(many)) for i in range(many))
            self.assertEqual(len(carrier_with(table, (6,) * (many - 1))), many)
            for place in range(many - 1):
                for wrong in (-1, 7, True, None, HUGE):
                    sizes = (0,) * place + (wrong,) * (many - 1 - place)
                    self.told(lambda: carrier_with(table, sizes), ("InvalidSizes", "index", sizes, place))
        self.told(lambda: carrier_with(((ONE,),), (0,)), ("InvalidSizes", "index", None, None))
        self.told(lambda: carrier_with(((ONE,),), None), ("InvalidSizes", "index", None, None))

    def test_bases_of_the_size_0(self):
        rebased = function_of("carriers", "rebased")
        self.assertEqual(rebased(STILL, ((), ())), STILL)
        self.assertEqual(rebased(STILL[:1], ()), STILL[:1])
        for value in NO_TABLES + (((ONE,),), CHAIN):
            if not (isinstance(value, tuple) and not value):
                self.told(lambda: rebased(STILL, ((), value)), ("InvalidBases", "index", None, 1))
                self.told(lambda: rebased(STILL, (value, value)), ("InvalidBases", "index", None, 0))

    def test_places(self):
        part_of = function_of("carryings", "part_of")
        one = (STILL[:1], (TWO,), STILL[:1])
        self.assertEqual(part_of(one, (0,)), one)
        for places in ((), (1,), (0, 1), (-1,), None):
            self.told(lambda: part_of(one, places), ("InvalidLot", "given", None, places))


class Returned(Case):
    def test_long_numbers_that_were_returned_may_be_passed(self):
        determinant, inverse = function_of("inverses", "determinant"), function_of("inverses", "inverse")
        great = (((HUGE, 2), (1, HUGE), ONE), (LESS, (HUGE, 3), TWO), ((-HUGE, 5), NIL, (5, HUGE)))
        told = inverse(great)
        self.assertGreater(max(len(bin(n)) for row in told for pair in row for n in pair), 4 * 400)
        self.assertEqual(inverse(told), great)
        self.assertEqual(function_of("tables", "rank_of")(told), 3)
        top, bottom = determinant(great)
        self.assertEqual(determinant(told), (bottom, top) if top > 0 else (-bottom, -top))
        self.assertEqual(function_of("corners", "low_ranks")(told), function_of("corners", "low_ranks")(great))

    def test_what_carriers_return_may_be_passed(self):
        great = (((HUGE, 2), (1, HUGE), ONE), (LESS, (HUGE, 3), TWO), ((-HUGE, 5), (2, HUGE), (5, HUGE)))
        told = function_of("carryings", "inverse_of")(function_of("carryings", "least_carrying")(great))
        self.assertGreater(max(len(bin(n)) for pair in told[0][2][0] for n in pair), 4 * 400)
        self.assertEqual(function_of("carryings", "table_of")(function_of("carryings", "inverse_of")(told)), great)
        self.assertIs(function_of("carryings", "is_least")(function_of("carryings", "turned_round")(told)), True)
        self.assertEqual(function_of("carriers", "bases_between")(told[0], told[0]), (((ONE,),), ((ONE,),)))
        left = function_of("left", "left_of")(function_of("inverses", "inverse")(great), (0,), (0,))
        self.assertEqual(function_of("inverses", "inverse")(left), tuple(row[1:] for row in great[1:]))

    def test_an_error_of_long_numbers(self):
        wrong = ((((HUGE ** 20, HUGE ** 20),),),)
        with self.assertRaises(errors.InvalidTable) as caught:
            function_of("tables", "rank_of")(wrong)
        self.assertIs(caught.exception.given, wrong)
        self.assertIsInstance(str(caught.exception), str)


if __name__ == "__main__":
    unittest.main()
