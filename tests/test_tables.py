"""Tables, their parts and ranks (points 6 and 7)."""

import unittest

from cornerranks.inverses import determinant
from cornerranks.tables import (
    is_table, nullity, part, part_rank, product, rank_of, rank_pair, regular_part, turned_over)
from samples import (
    CHAIN, FLAT, HALF, LESS, LONG, NIL, ONE, TALL, TWO, Stream, chosen, is_plain, lots, numbers_of, rank_by_parts,
    rank_by_rows, sample_tables, table_from, times, unit)

HUGE = 10 ** 399 + 1
DEEP = (((((((((((((),),),),),),),),),),),),)

ALMOST_TABLES = (
    [[ONE]], ([ONE],), [(ONE,)], ([1, 1],), (([1, 1],),), ((ONE, [1, 2]),),
    (), ((),), ((), ()), ((ONE,), ()), ((), (ONE,)),
    ((ONE,),) * 7, ((ONE,) * 7,), ((ONE,) * 7,) * 7, ((ONE,) * 6,) * 7, ((ONE,) * 7,) * 6,
    ((ONE,), (ONE, TWO)), ((ONE, TWO), (ONE,)), ((ONE, TWO), (ONE, TWO), (ONE, TWO, NIL)),
    (((True, 1),),), (((1, True),),), (((False, 1),),), (((True, True),),), ((True,),), (True,), ((False, ONE),),
    (((2, 2),),), (((2, 4),),), (((0, 2),),), (((-3, 6),),), (((0, 0),),), ((ONE, (6, 4)),),
    (((1, 0),),), (((1, -1),),), (((1, -2),),), (((0, -1),),), (((-1, -2),),),
    (((1, 1, 1),),), (((1,),),), (((),),), ((ONE, (1, 2, 3)),), ((((1, 1), 1),),), (((1, (1, 1)),),),
    ((1, 1),), ((1,),), (1, 1), ONE, ((None,),), ((("1", "1"),),), ((("1", 1),),), (((1, None),),), (("11",),), ("11",),
    ((b"11",),), ({(1, 1): 1},), (((HUGE, HUGE),),), (((2 * HUGE, 3 * HUGE),),), (((HUGE, 0),),), (((HUGE, -1),),),
    ((ONE, ONE), (ONE, (2, 2))), ((ONE, ONE), (ONE, None)), ((ONE, ONE), None), ((ONE, ONE), [ONE, ONE]),
)
OTHERS = (
    None, True, False, 0, 1, -5, HUGE, "", "text", b"", b"bytes", [], {}, {"a": 1}, set(), frozenset(), range(3), len,
    object(), ValueError, DEEP, (None,), ("a",), ([],), ({},), (0,), (0, 1, 2), {(ONE,)},
)


class Kinds(unittest.TestCase):
    def test_tables(self):
        for value in (CHAIN, FLAT, LONG, TALL, ((NIL,),), ((LESS,),), ((HALF, (-7, 3)),), ((ONE,),) * 6,
                      ((ONE,) * 6,), ((ONE,) * 6,) * 6, (((HUGE, 1),),), (((1, HUGE),),), (((-HUGE, 2 * HUGE + 1),),)):
            with self.subTest(value=value):
                self.assertIs(is_table(value), True)
                self.assertIs(is_table(value=value), True)

    def test_all_samples_are_tables(self):
        for table, _ in sample_tables():
            self.assertIs(is_table(table), True)

    def test_almost_tables(self):
        for value in ALMOST_TABLES:
            with self.subTest(value=value):
                self.assertIs(is_table(value), False)

    def test_anything_else(self):
        for value in OTHERS:
            with self.subTest(value=value):
                self.assertIs(is_table(value), False)

    def test_each_number_counts(self):
        rows = [list(row) for row in unit(6)]
        for i in range(6):
            for j in range(6):
                for wrong in ((2, 2), (1, 0), (True, 1), [1, 1], None):
                    worse = [list(row) for row in rows]
                    worse[i][j] = wrong
                    self.assertIs(is_table(tuple(tuple(row) for row in worse)), False)


class Products(unittest.TestCase):
    def test_turned_over(self):
        for table, _ in sample_tables():
            told = turned_over(table)
            self.assertEqual(told, tuple(zip(*table)))
            self.assertEqual(turned_over(told), table)
            self.assertTrue(is_table(told))

    def test_product(self):
        tables = [table for table, _ in sample_tables(seed=5)]
        tried = 0
        for k, table in enumerate(tables):
            for other in tables[k % 5::11]:
                if len(other) == len(table[0]):
                    told = product(table, other)
                    self.assertEqual(told, table_from(times(numbers_of(table), numbers_of(other))))
                    self.assertTrue(is_table(told) and is_plain(told))
                    tried += 1
        self.assertGreater(tried, 100)

    def test_product_of_all_shapes(self):
        for many in range(1, 7):
            for middle in range(1, 7):
                for wide in range(1, 7):
                    left = table_from([[i + 2 * k - 3 for k in range(middle)] for i in range(many)])
                    right = table_from([[k * k - j for j in range(wide)] for k in range(middle)])
                    expected = table_from(times(numbers_of(left), numbers_of(right)))
                    self.assertEqual(product(left, right), expected)

    def test_product_with_1_and_with_noughts(self):
        for table, _ in sample_tables(seed=6, most=4):
            self.assertEqual(product(table, unit(len(table[0]))), table)
            self.assertEqual(product(unit(len(table)), table), table)
            noughts = ((NIL, NIL),) * len(table[0])
            self.assertEqual(product(table, noughts), ((NIL, NIL),) * len(table))

    def test_product_has_its_order(self):
        left, right = ((ONE, ONE), (NIL, ONE)), ((ONE, NIL), (ONE, ONE))
        self.assertEqual(product(left, right), ((TWO, ONE), (ONE, ONE)))
        self.assertEqual(product(right, left), ((ONE, ONE), (ONE, TWO)))

    def test_product_of_long_numbers(self):
        top, bottom = 3 ** 800, 2 ** 1300
        self.assertEqual(product((((top, bottom),),), (((bottom, top),),)), ((ONE,),))
        self.assertEqual(product((((top, 1), ONE),), ((ONE,), ((-top, 1),))), ((NIL,),))


class Parts(unittest.TestCase):
    def test_part_of_all_lots(self):
        for table in (CHAIN, LONG, TALL, ((ONE, TWO, HALF), (LESS, NIL, ONE))):
            for rows in lots(len(table)):
                for columns in lots(len(table[0])):
                    expected = tuple(tuple(row) for row in chosen(table, rows, columns))
                    self.assertEqual(part(table, rows, columns), expected)

    def test_part_without_rows_or_columns(self):
        self.assertEqual(part(CHAIN, (), (0, 1)), ())
        self.assertEqual(part(CHAIN, (), ()), ())
        self.assertEqual(part(CHAIN, (0, 2), ()), ((), ()))
        self.assertEqual(part(LONG, (0,), ()), ((),))

    def test_rank_and_nullity_of_them(self):
        for rows, columns in (((), ()), ((), (0, 1)), ((0, 1), ())):
            self.assertEqual(part_rank(CHAIN, rows, columns), 0)
            self.assertEqual(nullity(CHAIN, rows, columns), len(columns))
            self.assertEqual(regular_part(CHAIN, rows, columns), ((), ()))

    def test_part_of_all_is_the_table(self):
        for table, _ in sample_tables(seed=7):
            self.assertEqual(part(table, tuple(range(len(table))), tuple(range(len(table[0])))), table)


class Ranks(unittest.TestCase):
    def test_rank_of(self):
        for table, rank in sample_tables(seed=8):
            self.assertEqual(rank_of(table), rank)
            self.assertEqual(rank_of(turned_over(table)), rank)
            self.assertIs(type(rank_of(table)), int)

    def test_rank_by_regular_parts(self):
        stream = Stream(9)
        for _ in range(150):
            many, wide = stream.below(4) + 1, stream.below(4) + 1
            rows = [[(stream.below(5) - 2) * stream.below(2) for _ in range(wide)] for _ in range(many)]
            self.assertEqual(rank_of(table_from(rows)), rank_by_parts(rows))

    def test_ranks_that_hang_on_one_long_number(self):
        great = 10 ** 200
        near = table_from([[great, great + 1], [great - 1, great]])
        self.assertEqual(rank_of(near), 2)
        self.assertEqual(rank_of(table_from([[great, great * great], [1, great]])), 1)
        self.assertEqual(rank_of((((1, great), (1, great + 1)), ((1, great + 1), (1, great + 2)))), 2)

    def test_part_rank_and_nullity(self):
        for table, _ in sample_tables(seed=10, most=4):
            numbers = numbers_of(table)
            for rows in lots(len(table)):
                for columns in lots(len(table[0])):
                    rank = rank_by_rows(chosen(numbers, rows, columns))
                    self.assertEqual(part_rank(table, rows, columns), rank)
                    self.assertEqual(nullity(table, rows, columns), len(columns) - rank)

    def test_parts_of_six_rows(self):
        stream = Stream(11)
        for table, _ in sample_tables(seed=12):
            if len(table) + len(table[0]) < 10:
                continue
            numbers = numbers_of(table)
            for _ in range(12):
                rows = tuple(i for i in range(len(table)) if stream.below(2))
                columns = tuple(j for j in range(len(table[0])) if stream.below(2))
                rank = rank_by_rows(chosen(numbers, rows, columns))
                self.assertEqual(part_rank(table, rows, columns), rank)
                self.assertEqual(nullity(table, rows, columns), len(columns) - rank)


class RankPairs(unittest.TestCase):
    def test_rank_pair(self):
        for table, rank in sample_tables(seed=13):
            told = rank_pair(table)
            if rank == 0:
                self.assertIsNone(told)
                continue
            self.assertIs(type(told), tuple)
            first, second = told
            self.assertTrue(is_table(first) and is_table(second))
            self.assertEqual((len(first), len(first[0])), (len(table), rank))
            self.assertEqual((len(second), len(second[0])), (rank, len(table[0])))
            self.assertEqual(product(first, second), table)

    def test_noughts_alone(self):
        for many in range(1, 7):
            for wide in range(1, 7):
                self.assertIsNone(rank_pair(((NIL,) * wide,) * many))

    def test_one_number_alone(self):
        for i in range(3):
            for j in range(4):
                table = table_from([[int((i, j) == (k, m)) for m in range(4)] for k in range(3)])
                first, second = rank_pair(table)
                self.assertEqual((len(first[0]), len(second)), (1, 1))
                self.assertEqual(product(first, second), table)


class RegularParts(unittest.TestCase):
    def check(self, table, rows, columns):
        rank = rank_by_rows(chosen(numbers_of(table), rows, columns))
        told = regular_part(table, rows, columns)
        self.assertTrue(type(told) is tuple and is_plain(told))
        lines, places = told
        self.assertEqual((len(lines), len(places)), (rank, rank))
        self.assertEqual(lines, tuple(i for i in rows if i in lines))
        self.assertEqual(places, tuple(j for j in columns if j in places))
        if rank:
            self.assertNotEqual(determinant(part(table, lines, places)), NIL)

    def test_all_lots_of_small_tables(self):
        for table, _ in sample_tables(seed=14, most=3):
            for rows in lots(len(table)):
                for columns in lots(len(table[0])):
                    self.check(table, rows, columns)

    def test_great_tables(self):
        stream = Stream(15)
        for table, _ in sample_tables(seed=16):
            self.check(table, tuple(range(len(table))), tuple(range(len(table[0]))))
            for _ in range(3):
                rows = tuple(i for i in range(len(table)) if stream.below(3))
                self.check(table, rows, tuple(j for j in range(len(table[0])) if stream.below(3)))

    def test_parts_behind_noughts(self):
        table = table_from([[0, 0, 0], [0, 0, 5], [0, 3, 0]])
        self.assertEqual(regular_part(table, (0, 1, 2), (0, 1, 2)), ((1, 2), (1, 2)))
        self.assertEqual(regular_part(table, (0, 1), (0, 1, 2)), ((1,), (2,)))
        self.assertEqual(regular_part(table, (0, 1), (0, 1)), ((), ()))


if __name__ == "__main__":
    unittest.main()
