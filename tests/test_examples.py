"""The examples that the document prints."""

import unittest

from cornerranks.corners import are_ranks, high_ranks, low_ranks, table_with
from cornerranks.errors import NotRegular
from cornerranks.inverses import determinant, inverse, is_regular, null_row, solved
from cornerranks.tables import (
    is_table, nullity, part, part_rank, product, rank_of, rank_pair, regular_part, turned_over)

nil, half, one, two, less = (0, 1), (1, 2), (1, 1), (2, 1), (-1, 1)
chain = ((two, less, nil), (less, two, less), (nil, less, two))
flat, long = ((one, one), (one, one)), ((one, two, nil),)


class Tables(unittest.TestCase):
    def test_tables_and_parts(self):
        self.assertIs(is_table(long), True)
        self.assertIs(is_table(((one,), (one, two))), False)
        self.assertEqual(turned_over(long), (((1, 1),), ((2, 1),), ((0, 1),)))
        self.assertEqual(product(long, chain), (((0, 1), (3, 1), (-2, 1)),))
        self.assertEqual(part(chain, (0, 2), (1,)), (((-1, 1),), ((-1, 1),)))
        self.assertEqual(part(chain, (1,), ()), ((),))

    def test_ranks(self):
        self.assertEqual([rank_of(chain), rank_of(flat)], [3, 1])
        self.assertEqual([part_rank(chain, (0, 1), (1, 2)), part_rank(chain, (0, 2), (1,))], [2, 1])
        self.assertEqual([nullity(chain, (0,), (0, 2)), nullity(chain, (), (0, 1))], [1, 2])

    def test_pairs(self):
        one_side, other_side = rank_pair(flat)
        self.assertEqual(product(one_side, other_side), flat)
        self.assertEqual(len(other_side), 1)
        self.assertIsNone(rank_pair(((nil, nil),)))
        self.assertEqual(len(regular_part(chain, (0, 2), (0, 1))[0]), 2)
        self.assertEqual(regular_part(chain, (2,), (0,)), ((), ()))


class Inverses(unittest.TestCase):
    def test_inverses(self):
        self.assertIs(is_regular(chain), True)
        self.assertIs(is_regular(flat), False)
        self.assertEqual(determinant(chain), (4, 1))
        self.assertEqual(inverse(((two, one), (one, one))), (((1, 1), (-1, 1)), ((-1, 1), (2, 1))))
        self.assertEqual(solved(chain, (one, nil, one)), ((1, 1), (1, 1), (1, 1)))
        self.assertIsNone(null_row(chain))

    def test_more_of_them(self):
        self.assertEqual(inverse(chain)[0], ((3, 4), (1, 2), (1, 4)))
        self.assertEqual(nullity(inverse(chain), (1,), (1, 2)), 1)
        self.assertNotEqual(null_row(flat)[0], nil)

    def test_singular(self):
        with self.assertRaises(NotRegular):
            inverse(flat)


class Corners(unittest.TestCase):
    def test_ranks_of_tables(self):
        self.assertEqual([low_ranks(chain), high_ranks(chain)], [(1, 1), (1, 1)])
        self.assertEqual([low_ranks(inverse(chain)), low_ranks(flat), low_ranks(((one,),))], [(1, 1), (1,), ()])

    def test_ranks_that_some_table_has(self):
        self.assertIs(are_ranks((1, 2, 1), (0, 0, 0)), True)
        self.assertIs(are_ranks((2, 1), (0, 0)), False)
        self.assertIs(are_ranks((), ()), True)
        self.assertIsNone(table_with((2, 1), (0, 0)))
        self.assertEqual(low_ranks(table_with((1, 2, 1), (0, 1, 0))), (1, 2, 1))
        self.assertEqual(high_ranks(table_with((1, 2, 1), (0, 1, 0))), (0, 1, 0))


if __name__ == "__main__":
    unittest.main()
