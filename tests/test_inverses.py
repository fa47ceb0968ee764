"""Regular and singular tables (point 6) and the parts of a table and of its inverse (point 8)."""

import unittest
from fractions import Fraction
from itertools import permutations

from cornerranks.errors import NotRegular
from cornerranks.inverses import determinant, inverse, is_regular, null_row, solved
from cornerranks.tables import is_table, nullity, part, part_rank, product, turned_over
from samples import (
    CHAIN, FLAT, LESS, NIL, ONE, TWO, Stream, beside, determinant_by_orders, is_plain, lots, numbers_of, pair,
    regular_squares, sample_squares, sign, sparse_squares, table_from, unit)


def column(row):
    return tuple((number,) for number in row)


def noughts(many):
    return (NIL,) * many


class Regular(unittest.TestCase):
    def test_is_regular(self):
        for table, rank in sample_squares():
            self.assertIs(is_regular(table), rank == len(table))

    def test_of_one_row(self):
        self.assertIs(is_regular(((NIL,),)), False)
        self.assertIs(is_regular((((-3, 7),),)), True)
        self.assertEqual(determinant((((-3, 7),),)), (-3, 7))
        self.assertEqual(inverse((((-3, 7),),)), (((-7, 3),),))
        self.assertEqual(solved((((-3, 7),),), ((6, 1),)), ((-14, 1),))

    def test_noughts_at_the_beginning(self):
        turned = ((NIL, ONE), (ONE, NIL))
        self.assertIs(is_regular(turned), True)
        self.assertEqual(determinant(turned), (-1, 1))
        self.assertEqual(inverse(turned), turned)


class Determinants(unittest.TestCase):
    def test_by_all_orders(self):
        for table, _ in sample_squares(seed=21, most=4):
            self.assertEqual(determinant(table), pair(determinant_by_orders(numbers_of(table))))
        for table in sparse_squares(seed=22, each=4):
            self.assertEqual(determinant(table), pair(determinant_by_orders(numbers_of(table))))

    def test_six_rows(self):
        stream = Stream(23)
        rows = [[Fraction(stream.below(41) - 20, stream.below(12) + 1) for _ in range(6)] for _ in range(6)]
        self.assertEqual(determinant(table_from(rows)), pair(determinant_by_orders(rows)))

    def test_orders_of_the_unit_rows(self):
        for many in range(1, 6):
            rows = unit(many)
            for order in permutations(range(many)):
                self.assertEqual(determinant(tuple(rows[k] for k in order)), (sign(order), 1))

    def test_singular(self):
        for table, rank in sample_squares(seed=24):
            self.assertEqual(determinant(table) == NIL, rank < len(table))

    def test_of_products_and_turned_over(self):
        tables = [table for table, _ in sample_squares(seed=25, most=5)]
        for table, other in zip(tables, tables[1:]):
            if len(table) == len(other):
                (a, b), (c, d) = determinant(table), determinant(other)
                self.assertEqual(determinant(product(table, other)), pair(Fraction(a * c, b * d)))
            self.assertEqual(determinant(turned_over(table)), determinant(table))

    def test_along_the_middle(self):
        table = table_from([[Fraction(k + 2, 3) if i == k else 0 for k in range(6)] for i in range(6)])
        self.assertEqual(determinant(table), pair(Fraction(2 * 3 * 4 * 5 * 6 * 7, 3 ** 6)))


class Inverses(unittest.TestCase):
    def test_inverse(self):
        for table in regular_squares(seed=26) + sparse_squares(seed=27):
            told = inverse(table)
            self.assertTrue(is_table(told) and is_plain(told))
            self.assertEqual(product(told, table), unit(len(table)))
            self.assertEqual(product(table, told), unit(len(table)))
            self.assertEqual(inverse(told), table)

    def test_singular(self):
        for table, rank in sample_squares(seed=28):
            if rank < len(table):
                with self.assertRaises(NotRegular):
                    inverse(table)

    def test_long_numbers(self):
        stream = Stream(29)
        rows = [[Fraction(stream.long(200), stream.long(150) + 1) for _ in range(4)] for _ in range(4)]
        table = table_from(rows)
        told = inverse(table)
        self.assertEqual(product(told, table), unit(4))
        self.assertEqual(inverse(told), table)

    def test_nearly_singular(self):
        great = 10 ** 150
        table = table_from([[great, great + 1], [great - 1, great]])
        self.assertEqual(determinant(table), ONE)
        self.assertEqual(inverse(table), table_from([[great, -great - 1], [1 - great, great]]))
        worse = table_from([[great, great * great], [1, great]])
        self.assertIs(is_regular(worse), False)
        self.assertEqual(determinant(worse), NIL)


class Solved(unittest.TestCase):
    def test_solved(self):
        stream = Stream(30)
        for table in regular_squares(seed=31) + sparse_squares(seed=32):
            row = tuple(pair(Fraction(stream.below(31) - 15, stream.below(6) + 1)) for _ in table)
            told = solved(table, row)
            self.assertTrue(type(told) is tuple and is_plain(told))
            self.assertEqual(product(table, column(told)), column(row))
            self.assertEqual(solved(table, noughts(len(table))), noughts(len(table)))

    def test_unit_rows_make_the_inverse(self):
        for table in sparse_squares(seed=33, each=2):
            told = tuple(solved(table, row) for row in unit(len(table)))
            self.assertEqual(turned_over(told), inverse(table))

    def test_columns_and_not_rows_are_taken(self):
        self.assertEqual(solved(((ONE, TWO), (NIL, ONE)), (ONE, ONE)), (LESS, ONE))

    def test_each_singular_table(self):
        for table, rank in sample_squares(seed=34):
            if rank < len(table):
                # Also the rows that the table does reach: noughts, and a column of its own.
                for row in (noughts(len(table)), tuple(line[0] for line in table), unit(len(table))[0]):
                    with self.assertRaises(NotRegular):
                        solved(table, row)


class NullRows(unittest.TestCase):
    def test_null_row(self):
        for table, rank in sample_squares(seed=35):
            told = null_row(table)
            if rank == len(table):
                self.assertIsNone(told)
                continue
            self.assertTrue(type(told) is tuple and is_plain(told) and is_table((told,)))
            self.assertEqual(len(told), len(table))
            self.assertNotEqual(told, noughts(len(table)))
            self.assertEqual(product(table, column(told)), column(noughts(len(table))))

    def test_regular_with_noughts(self):
        for table in sparse_squares(seed=36):
            self.assertIsNone(null_row(table))

    def test_each_place_of_a_column_that_is_free_of_none(self):
        for many in range(1, 7):
            for free in range(many):
                table = table_from([[int(i == j and i != free) for j in range(many)] for i in range(many)])
                told = null_row(table)
                self.assertNotEqual(told[free], NIL)
                self.assertEqual([told[k] for k in range(many) if k != free], [NIL] * (many - 1))

    def test_rows_and_not_columns_are_brought_to_noughts(self):
        table = ((ONE, TWO), (NIL, NIL))
        told = null_row(table)
        self.assertEqual(product(table, column(told)), column(noughts(2)))
        self.assertNotEqual(told[1], NIL)
        self.assertIsNotNone(null_row(FLAT))


class Parts(unittest.TestCase):
    """Point 8: parts of a table and of its inverse, for all lots."""

    def check_ranks(self, table):
        many, other = len(table), inverse(table)
        for rows in lots(many):
            for columns in lots(many):
                lines, places = beside(columns, many), beside(rows, many)
                self.assertEqual(nullity(table, rows, columns), nullity(other, lines, places))
                rank = part_rank(table, rows, columns) + many - len(rows) - len(columns)
                self.assertEqual(part_rank(other, lines, places), rank)

    def check_determinants(self, table):
        many, other = len(table), inverse(table)
        whole = Fraction(*determinant(table))
        for rows in lots(many):
            for columns in lots(many):
                if len(rows) == len(columns):
                    ahead = self.determinant_of(table, rows, columns)
                    behind = self.determinant_of(other, beside(columns, many), beside(rows, many))
                    self.assertEqual(behind, ahead / whole * (-1) ** (sum(rows) + sum(columns)))

    def determinant_of(self, table, rows, columns):
        return Fraction(*determinant(part(table, rows, columns))) if rows else Fraction(1)

    def test_ranks_of_up_to_four_rows(self):
        for table in regular_squares(seed=37, most=4) + sparse_squares(seed=38, most=4, each=4):
            self.check_ranks(table)

    def test_ranks_of_five_and_six_rows(self):
        for table in sparse_squares(seed=39, each=1)[4:]:
            self.check_ranks(table)
        self.check_ranks(table_from([[2 * (i == j) - (abs(i - j) == 1) for j in range(6)] for i in range(6)]))

    def test_determinants_of_up_to_four_rows(self):
        for table in regular_squares(seed=40, most=4) + sparse_squares(seed=41, most=4, each=4) + [CHAIN]:
            self.check_determinants(table)

    def test_determinants_of_five_and_six_rows(self):
        for table in sparse_squares(seed=42, each=1)[4:]:
            self.check_determinants(table)


if __name__ == "__main__":
    unittest.main()
