"""Shapes of the inverse: its noughts, its widths, half pairs (points 19, 20 and 21)."""

import unittest
from fractions import Fraction
from itertools import product as all_of

from cornerranks.errors import InvalidLot, InvalidRow, InvalidSquare, NotRegular
from cornerranks.inverses import inverse, is_regular
from cornerranks.shapes import (
    half_pair, has_noughts, inverse_width_above, inverse_width_below, is_half_pair, width_above, width_below)
from cornerranks.tables import turned_over
from samples import (
    CHAIN, FLAT, HALF, HILL, LESS, NIL, ONE, STILL, TWO, Stream, beside, broken, chosen, drawn_row, is_plain, lots,
    numbers_of, pair, rank_by_rows, regular_squares, sample_squares, small, sparse_squares, table_from, times, unit)
from wrongs import HUGE, NO_ROWS, placed


def width_by_words(rows, below):
    """The least p from 0 on for which all numbers more than p below, or above, the middle are 0."""
    for p in range(10):
        if not any(number for i, row in enumerate(rows) for j, number in enumerate(row)
                   if (i - j if below else j - i) > p):
            return p


def banded(stream, many, below, above, draw=small):
    """A regular table of just these widths below and above."""
    while True:
        rows = [[Fraction(draw(stream)) if -above <= i - j <= below else Fraction(0) for j in range(many)]
                for i in range(many)]
        if rank_by_rows(rows) == many and (width_by_words(rows, True), width_by_words(rows, False)) == (below, above):
            return table_from(rows)


def banded_tables(seed):
    stream = Stream(seed)
    for many in range(1, 7):
        for below in range(many):
            for above in range(many):
                yield banded(stream, many, below, above)
        yield banded(stream, many, many // 2, min(1, many - 1), broken)


def regular_tables(seed):
    """Regular tables, such as have blocks of noughts in their inverses as well as such as have none."""
    yield from (inverse(table) for table in banded_tables(seed))
    yield from (inverse(table) for table in sparse_squares(seed))
    yield from sparse_squares(seed + 1000)
    yield from regular_squares(seed)


def singular_tables(seed):
    yield from (table for table, rank in sample_squares(seed) if rank < len(table))


class Widths(unittest.TestCase):
    def check(self, table):
        rows = numbers_of(table)
        self.assertEqual(width_below(table), width_by_words(rows, True))
        self.assertEqual(width_above(table), width_by_words(rows, False))
        self.assertEqual(width_above(table), width_below(turned_over(table)))
        self.assertIs(type(width_below(table)), int)
        self.assertIs(type(width_above(table)), int)

    def test_regular_and_singular_tables(self):
        for table in list(banded_tables(181)) + sparse_squares(182) + list(singular_tables(183)):
            self.check(table)

    def test_all_tables_of_noughts_and_ones(self):
        for many in (1, 2, 3):
            for numbers in all_of((0, 1), repeat=many * many):
                self.check(table_from([numbers[many * i:many * i + many] for i in range(many)]))

    def test_one_number(self):
        for i in range(6):
            for j in range(6):
                table = table_from([[Fraction(int((k, m) == (i, j)), 7) for m in range(6)] for k in range(6)])
                self.assertEqual((width_below(table), width_above(table)), (max(i - j, 0), max(j - i, 0)))

    def test_one_row(self):
        for number in (NIL, ONE, (-1, 3)):
            self.assertEqual((width_below(((number,),)), width_above(((number,),))), (0, 0))


class InverseWidths(unittest.TestCase):
    def test_widths_of_the_inverse(self):
        found = set()
        for table in regular_tables(184):
            rows = numbers_of(inverse(table))
            told = (inverse_width_below(table), inverse_width_above(table))
            self.assertEqual(told, (width_by_words(rows, True), width_by_words(rows, False)))
            self.assertEqual(told, (inverse_width_above(turned_over(table)), inverse_width_below(turned_over(table))))
            self.assertTrue(is_plain(told))
            found.add((len(table),) + told)
        for many in range(1, 7):
            for below in range(many):
                for above in range(many):
                    self.assertIn((many, below, above), found)

    def test_noughts_inside_the_width(self):
        # Far from the middle there is one number alone, nearer ones are 0.
        for many in range(2, 7):
            for p in range(1, many):
                for at in range(many - p):
                    rows = [[int(i == j) + 3 * int((i, j) == (at + p, at)) for j in range(many)] for i in range(many)]
                    table = inverse(table_from(rows))
                    self.assertEqual((inverse_width_below(table), inverse_width_above(table)), (p, 0))

    def test_by_the_ranks_of_point_20(self):
        tables = sparse_squares(seed=185, each=10)
        for table in tables + [inverse(table) for table in tables]:
            many, rows = len(table), numbers_of(table)
            for p in range(many):
                so = all(rank_by_rows([row[:k + p + 1] for row in rows[k + 1:]]) == p for k in range(many - p - 1))
                self.assertIs(inverse_width_below(table) <= p, so)

    def test_of_the_table_of_the_inverse(self):
        for table in banded_tables(187):
            self.assertEqual(inverse_width_below(inverse(table)), width_below(table))
            self.assertEqual(inverse_width_above(inverse(table)), width_above(table))

    def test_singular(self):
        for table in singular_tables(188):
            for function in (inverse_width_below, inverse_width_above):
                with self.assertRaises(NotRegular):
                    function(table)

    def test_singular_with_noughts_below(self):
        for table in (((NIL,),), table_from([[0, 1], [0, 1]]), table_from([[1, 2, 3], [0, 0, 4], [0, 0, 5]])):
            for function in (inverse_width_below, inverse_width_above):
                with self.assertRaises(NotRegular):
                    function(table)
                with self.assertRaises(NotRegular):
                    function(square=turned_over(table))


class Noughts(unittest.TestCase):
    def check(self, table, rows, columns, other):
        so = not any(other[i][j] for i in rows for j in columns)
        self.assertIs(has_noughts(table, rows, columns), so)
        # Point 19: the rank of the part of the table beside.
        many = len(table)
        rank = rank_by_rows(chosen(numbers_of(table), beside(columns, many), beside(rows, many)))
        self.assertGreaterEqual(rank, many - len(rows) - len(columns))
        self.assertEqual(rank == many - len(rows) - len(columns), so)
        return so and bool(rows and columns)

    def test_all_lots_of_up_to_four_rows(self):
        found = 0
        for table in regular_tables(189):
            many = len(table)
            if many <= 4:
                other = numbers_of(inverse(table))
                found += sum(self.check(table, rows, columns, other) for rows in lots(many) for columns in lots(many))
        self.assertGreater(found, 500)

    def test_lots_of_five_and_six_rows(self):
        stream = Stream(190)
        found = 0
        for table in regular_tables(191):
            many, other = len(table), numbers_of(inverse(table))
            if many > 4:
                for _ in range(12):
                    rows, columns = (tuple(k for k in range(many) if stream.below(3) == 0) for _ in range(2))
                    found += self.check(table, rows, columns, other)
                # Just below the middle, and the greatest block below each cut.
                for k in range(1, many):
                    found += self.check(table, (k,), (k - 1,), other)
                    found += self.check(table, tuple(range(k, many)), tuple(range(k)), other)
        self.assertGreater(found, 200)

    def test_no_rows_or_no_columns(self):
        for table in regular_tables(192):
            whole = tuple(range(len(table)))
            for rows, columns in (((), ()), ((), whole), (whole, ()), ((0,), ()), ((), (0,))):
                self.assertIs(has_noughts(table, rows, columns), True)
            self.assertIs(has_noughts(table, whole, whole), False)
            for k in whole:
                self.assertIs(has_noughts(table, whole, (k,)), False)
                self.assertIs(has_noughts(table, (k,), whole), False)

    def test_rows_are_those_of_the_inverse(self):
        table = inverse(((ONE, TWO), (NIL, ONE)))
        self.assertIs(has_noughts(table, (1,), (0,)), True)
        self.assertIs(has_noughts(table, (0,), (1,)), False)
        self.assertIs(has_noughts(square=table, columns=(0,), rows=(1,)), True)

    def test_singular_whatever_the_lots_are(self):
        for table in singular_tables(193):
            whole = tuple(range(len(table)))
            for rows, columns in (((), ()), ((), whole), (whole, whole), ((0,), ()), ((0,), (0,))):
                with self.assertRaises(NotRegular):
                    has_noughts(table, rows, columns)
            for rows, columns, wrong in (((-1,), (0,), (-1,)), ((0,), (9,), (9,))):
                with self.assertRaises(InvalidLot) as caught:
                    has_noughts(table, rows, columns)
                self.assertEqual(caught.exception.given, wrong)


def is_half_by_words(rows, row, other):
    return all(rows[i][j] == Fraction(*row[i]) * Fraction(*other[j]) for i in range(len(rows)) for j in range(i + 1))


def with_half_pair(stream, row, other):
    """A table with this half pair, all above the middle drawn."""
    many = len(row)
    products = times([[Fraction(*number)] for number in row], [[Fraction(*number) for number in other]])
    return table_from([[products[i][j] if i >= j else small(stream) for j in range(many)] for i in range(many)])


def half_by_the_inverse(table):
    """Point 21: the inverse has a width below of at most 1 and is nowhere 0 just 1 below the middle."""
    rows = numbers_of(inverse(table))
    return width_by_words(rows, True) <= 1 and all(rows[k + 1][k] for k in range(len(rows) - 1))


class HalfPairs(unittest.TestCase):
    def check(self, table):
        told = half_pair(table)
        so = half_by_the_inverse(table)
        if not so:
            self.assertIsNone(told)
            return False
        self.assertTrue(type(told) is tuple and is_plain(told))
        row, other = told
        self.assertEqual((len(row), len(other)), (len(table), len(table)))
        self.assertTrue(is_half_by_words(numbers_of(table), row, other))
        self.assertIs(is_half_pair(table, row, other), True)
        return True

    def test_half_pair(self):
        found = [self.check(table) for table in regular_tables(194)]
        self.assertGreater(sum(found), 30)
        self.assertGreater(len(found) - sum(found), 100)

    def test_of_inverses_of_width_1(self):
        stream = Stream(195)
        with_one = without = 0
        for many in range(1, 7):
            for above in range(many):
                for _ in range(8):
                    table = inverse(banded(stream, many, min(1, many - 1), above))
                    if self.check(table):
                        with_one += 1
                    else:
                        without += 1
        self.assertGreater(with_one, 60)
        self.assertGreater(without, 30)

    def test_0_just_below_the_middle_of_the_inverse(self):
        for many in range(2, 7):
            whole = [[2 if i == j else 1 if i - j == 1 else 0 for j in range(many)] for i in range(many)]
            self.assertIsNotNone(half_pair(inverse(table_from(whole))))
            for k in range(many - 1):
                rows = [list(row) for row in whole]
                rows[k + 1][k] = 0
                table = inverse(table_from(rows))
                self.assertLessEqual(inverse_width_below(table), 1)
                self.assertIsNone(half_pair(table))

    def test_from_half_pairs(self):
        stream = Stream(196)
        tried = 0
        for many in range(1, 7):
            for _ in range(12):
                row, other = drawn_row(stream, many), drawn_row(stream, many)
                table = with_half_pair(stream, row, other)
                self.assertIs(is_half_pair(table, row, other), True)
                if is_regular(table):
                    self.assertTrue(self.check(table))
                    tried += 1
                else:
                    with self.assertRaises(NotRegular):
                        half_pair(table)
        self.assertGreater(tried, 40)

    def test_noughts_within_the_half_pair(self):
        # a is 0 in the middle, the table is regular nevertheless.
        table = table_from([[1, 5, 7], [0, 0, 3], [2, 4, 6]])
        self.assertEqual(half_pair(table)[0][1], NIL)
        self.assertTrue(self.check(table))

    def test_a_corner_of_0(self):
        self.assertIsNone(half_pair(unit(2)))
        self.assertIsNone(half_pair(CHAIN))
        self.assertIsNotNone(half_pair(((NIL, ONE), (ONE, ONE))))
        self.assertIsNone(half_pair(table_from([[1, 0, 0], [1, 1, 0], [0, 1, 1]])))

    def test_a_corner_other_than_0_is_not_enough(self):
        self.assertIsNone(half_pair(table_from([[1, 1, 0], [1, 2, 1], [1, 1, 5]])))
        self.assertIsNone(half_pair(table_from([[1, 0, 0], [0, 1, 0], [1, 1, 1]])))

    def test_one_row(self):
        for number in (ONE, (-5, 3), (HUGE, 2)):
            row, other = half_pair(((number,),))
            self.assertEqual(pair(Fraction(*row[0]) * Fraction(*other[0])), number)
        with self.assertRaises(NotRegular):
            half_pair(((NIL,),))

    def test_above_the_middle_nothing_counts(self):
        for above in (NIL, ONE, (-7, 3)):
            table = ((ONE, above), (TWO, TWO))
            self.assertIs(is_half_pair(table, (ONE, TWO), (ONE, ONE)), True)
        self.assertIs(is_half_pair(turned_over(((ONE, NIL), (TWO, TWO))), (ONE, TWO), (ONE, ONE)), False)

    def test_any_other_one_is_a_multiple(self):
        stream = Stream(197)
        for many in range(1, 7):
            table = inverse(table_from([[2 if i == j else -1 if i - j == 1 else 0 for j in range(many)]
                                        for i in range(many)]))
            row, other = half_pair(table)
            for _ in range(5):
                by = Fraction(stream.below(9) + 1, stream.below(5) + 1) * (1 - 2 * stream.below(2))
                more = tuple(pair(Fraction(*number) * by) for number in row)
                less = tuple(pair(Fraction(*number) / by) for number in other)
                self.assertIs(is_half_pair(table, more, less), True)
                self.assertIs(is_half_pair(table, more, other), by == 1)
                self.assertIs(is_half_pair(table, row, less), by == 1)

    def test_is_half_pair_where_one_number_is_unlike(self):
        stream = Stream(198)
        for many in range(1, 7):
            row, other = ((ONE,) * many, (TWO,) * many)
            table = with_half_pair(stream, row, other)
            for i in range(many):
                for j in range(many):
                    worse = placed(table, i, placed(table[i], j, (9, 5)))
                    self.assertIs(is_half_pair(worse, row, other), i < j)
                self.assertIs(is_half_pair(table, placed(row, i, HALF), other), False)
                self.assertIs(is_half_pair(table, row, placed(other, i, LESS)), False)

    def test_singular_ones(self):
        stream = Stream(199)
        for table in singular_tables(200):
            with self.assertRaises(NotRegular):
                half_pair(table)
            row, other = drawn_row(stream, len(table)), drawn_row(stream, len(table))
            self.assertIs(is_half_pair(table, row, other), is_half_by_words(numbers_of(table), row, other))
        for many in range(2, 7):
            row, other = drawn_row(stream, many), drawn_row(stream, many)
            table = table_from(times([[Fraction(*n)] for n in row], [[Fraction(*n) for n in other]]))
            self.assertIs(is_half_pair(table, row, other), True)
            with self.assertRaises(NotRegular):
                half_pair(table)
        self.assertIs(is_half_pair(((NIL,),), (NIL,), (ONE,)), True)
        self.assertIs(is_half_pair(FLAT, (ONE, ONE), (ONE, ONE)), True)

    def test_errors_of_rows(self):
        for value, index in NO_ROWS:
            for values in ((HILL, value, (ONE,) * 3), (HILL, (ONE,) * 3, value), (HILL, value, None)):
                with self.assertRaises(InvalidRow) as caught:
                    is_half_pair(*values)
                self.assertEqual(caught.exception.index, index)

    def test_long_numbers(self):
        table = inverse(table_from([[HUGE, 1, 0], [Fraction(1, HUGE), 3, HUGE], [0, -HUGE, Fraction(5, 7)]]))
        self.assertTrue(self.check(table))
        self.assertEqual((inverse_width_below(table), inverse_width_above(table)), (1, 1))


class Errors(unittest.TestCase):
    def test_no_square_table_is_told_first(self):
        for function in (half_pair, inverse_width_below, inverse_width_above, width_below, width_above):
            for wrong in (((NIL, NIL),), STILL, None, FLAT + FLAT[:1]):
                with self.assertRaises(InvalidSquare) as caught:
                    function(wrong)
                self.assertIs(caught.exception.given, wrong)


if __name__ == "__main__":
    unittest.main()
