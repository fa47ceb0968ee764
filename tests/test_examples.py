"""The examples that the document prints."""

import unittest

from cornerranks.carriers import (
    bases_between, carried, carrier_with, carry, coming, going, is_carrier, is_least_carrier, made_least, rebased,
    sizes_of)
from cornerranks.carryings import (
    inverse_of, is_carrying, is_least, least_carrying, part_of, product_of, solved_by, sum_of, table_of, turned_round)
from cornerranks.corners import are_ranks, high_ranks, low_ranks, table_with
from cornerranks.errors import NotLeast, NotRegular
from cornerranks.inverses import determinant, inverse, is_regular, null_row, solved
from cornerranks.left import left_of, raised, stairs_pair
from cornerranks.shapes import (
    half_pair, has_noughts, inverse_width_above, inverse_width_below, is_half_pair, width_above, width_below)
from cornerranks.tables import (
    is_table, nullity, part, part_rank, product, rank_of, rank_pair, regular_part, turned_over)

nil, half, one, two, three, four, less = (0, 1), (1, 2), (1, 1), (2, 1), (3, 1), (4, 1), (-1, 1)
chain = ((two, less, nil), (less, two, less), (nil, less, two))
flat, long = ((one, one), (one, one)), ((one, two, nil),)
hill, plain = ((three, two, one), (two, four, two), (one, two, three)), ((one, nil), (nil, one))
down = (((), ((),), (one,)), ((two,), ((two,),), (one,)), ((two,), (), ()))
still = (((), (), ()), ((), (), ()), ((), (), ()))
both = (down, (one, one, one), still)


class Tables(unittest.TestCase):
    def test_tables_and_parts(self):
        self.assertIs(is_table(long), True)
        self.assertIs(is_table(((one,), (one, two))), False)
        self.assertEqual(turned_over(long), (((1, 1),), ((2, 1),), ((0, 1),)))
        self.assertEqual(product(long, chain), (((0, 1), (3, 1), (-2, 1)),))
        self.assertEqual(part(chain, (0, 2), (1,)), (((-1, 1),), ((-1, 1),)))
        self.assertEqual(part(chain, (1,), ()), ((),))

    def test_ranks(self):
        self.assertEqual([rank_of(chain), rank_of(flat)], [3, 1])
        self.assertEqual([part_rank(chain, (0, 1), (1, 2)), part_rank(chain, (0, 2), (1,))], [2, 1])
        self.assertEqual([nullity(chain, (0,), (0, 2)), nullity(chain, (), (0, 1))], [1, 2])

    def test_pairs(self):
        one_side, other_side = rank_pair(flat)
        self.assertEqual(product(one_side, other_side), flat)
        self.assertEqual(len(other_side), 1)
        self.assertIsNone(rank_pair(((nil, nil),)))
        self.assertEqual(len(regular_part(chain, (0, 2), (0, 1))[0]), 2)
        self.assertEqual(regular_part(chain, (2,), (0,)), ((), ()))


class Inverses(unittest.TestCase):
    def test_inverses(self):
        self.assertIs(is_regular(chain), True)
        self.assertIs(is_regular(flat), False)
        self.assertEqual(determinant(chain), (4, 1))
        self.assertEqual(inverse(((two, one), (one, one))), (((1, 1), (-1, 1)), ((-1, 1), (2, 1))))
        self.assertEqual(solved(chain, (one, nil, one)), ((1, 1), (1, 1), (1, 1)))
        self.assertIsNone(null_row(chain))

    def test_more_of_them(self):
        self.assertEqual(inverse(chain)[0], ((3, 4), (1, 2), (1, 4)))
        self.assertEqual(nullity(inverse(chain), (1,), (1, 2)), 1)
        self.assertNotEqual(null_row(flat)[0], nil)

    def test_singular(self):
        with self.assertRaises(NotRegular):
            inverse(flat)


class Corners(unittest.TestCase):
    def test_ranks_of_tables(self):
        self.assertEqual([low_ranks(chain), high_ranks(chain)], [(1, 1), (1, 1)])
        self.assertEqual([low_ranks(inverse(chain)), low_ranks(flat), low_ranks(((one,),))], [(1, 1), (1,), ()])

    def test_ranks_that_some_table_has(self):
        self.assertIs(are_ranks((1, 2, 1), (0, 0, 0)), True)
        self.assertIs(are_ranks((2, 1), (0, 0)), False)
        self.assertIs(are_ranks((), ()), True)
        self.assertIsNone(table_with((2, 1), (0, 0)))
        self.assertEqual(low_ranks(table_with((1, 2, 1), (0, 1, 0))), (1, 2, 1))
        self.assertEqual(high_ranks(table_with((1, 2, 1), (0, 1, 0))), (0, 1, 0))


class Left(unittest.TestCase):
    def test_left_and_raised(self):
        self.assertEqual(left_of(chain, (1,), (1,)), (((3, 2), (-1, 2)), ((-1, 2), (3, 2))))
        self.assertEqual(left_of(chain, (0,), (1,)), (((3, 1), (-1, 1)), ((-2, 1), (2, 1))))
        self.assertEqual(left_of(flat, (), ()), flat)
        self.assertEqual(raised(flat, (one, less), (nil, two)), (((1, 1), (3, 1)), ((1, 1), (-1, 1))))

    def test_stairs(self):
        first = (((1, 1), (0, 1), (0, 1)), ((-1, 2), (1, 1), (0, 1)), ((0, 1), (-2, 3), (1, 1)))
        self.assertEqual(stairs_pair(chain)[0], first)
        self.assertEqual(stairs_pair(chain)[1][2], ((0, 1), (0, 1), (4, 3)))
        self.assertIsNone(stairs_pair(((nil, one), (one, nil))))

    def test_singular_part(self):
        with self.assertRaises(NotRegular):
            left_of(chain, (2,), (0,))


class Carriers(unittest.TestCase):
    def test_carriers(self):
        self.assertIs(is_carrier(down), True)
        self.assertIs(is_carrier(down[:2]), False)
        self.assertIs(is_carrier((((), (), ()),)), True)
        self.assertEqual(sizes_of(down), (1, 1))
        self.assertEqual(carry(down, (one, one, one)), ((0, 1), (2, 1), (6, 1)))

    def test_what_they_carry(self):
        rows = (((0, 1), (0, 1), (0, 1)), ((2, 1), (0, 1), (0, 1)), ((4, 1), (2, 1), (0, 1)))
        self.assertEqual(carried(down), rows)
        self.assertEqual(coming(down, 2), (((2, 1), (1, 1)),))
        self.assertEqual(going(down, 1), (((2, 1),), ((4, 1),)))
        self.assertIs(is_least_carrier(down), True)

    def test_bases(self):
        bases = (((two,),), ((half,),))
        led = rebased(down, bases)
        expected = (((), ((),), ((2, 1),)), (((1, 1),), (((1, 2),),), ((1, 2),)), (((4, 1),), (), ()))
        self.assertEqual(led, expected)
        self.assertEqual(bases_between(down, led), ((((2, 1),),), (((1, 2),),)))
        self.assertEqual(carried(led), carried(down))

    def test_sizes(self):
        wide = carrier_with(carried(down), (2, 1))
        self.assertEqual(sizes_of(wide), (2, 1))
        self.assertEqual(carried(wide), carried(down))
        self.assertIs(is_least_carrier(wide), False)
        self.assertEqual(sizes_of(made_least(wide)), (1, 1))
        self.assertIsNone(carrier_with(carried(down), (0, 1)))
        with self.assertRaises(NotLeast):
            bases_between(down, wide)


class Carryings(unittest.TestCase):
    def test_carryings(self):
        self.assertIs(is_carrying(both), True)
        self.assertIs(is_carrying((down, (one, one), still)), False)
        rows = (((1, 1), (0, 1), (0, 1)), ((2, 1), (1, 1), (0, 1)), ((4, 1), (2, 1), (1, 1)))
        self.assertEqual(table_of(both), rows)
        self.assertIs(is_least(both), True)
        expected = (((), ((),), ((2, 1),)), (((1, 1),), (((2, 1),),), ((2, 1),)), (((1, 1),), (), ()))
        self.assertEqual(turned_round(both)[2], expected)

    def test_inverses(self):
        rows = (((1, 1), (0, 1), (0, 1)), ((-2, 1), (1, 1), (0, 1)), ((0, 1), (-2, 1), (1, 1)))
        self.assertEqual(table_of(inverse_of(both)), rows)
        self.assertEqual(sizes_of(inverse_of(both)[0]), (1, 1))
        self.assertEqual(solved_by(both, (one, two, four)), ((1, 1), (0, 1), (0, 1)))
        self.assertEqual(table_of(turned_round(both))[0], ((1, 1), (2, 1), (4, 1)))

    def test_sums_products_and_parts(self):
        self.assertEqual(table_of(sum_of(both, both))[2], ((8, 1), (4, 1), (2, 1)))
        self.assertEqual(table_of(product_of(both, both))[2], ((12, 1), (4, 1), (1, 1)))
        self.assertEqual(table_of(part_of(both, (0, 2))), (((1, 1), (0, 1)), ((4, 1), (1, 1))))
        self.assertEqual(table_of(least_carrying(table_of(both))), table_of(both))


class Shapes(unittest.TestCase):
    def test_widths(self):
        self.assertEqual([width_below(chain), inverse_width_below(chain)], [1, 2])
        self.assertEqual([width_above(hill), inverse_width_above(hill), inverse_width_below(plain)], [2, 1, 0])
        with self.assertRaises(NotRegular):
            inverse_width_below(((one, two), (two, four)))

    def test_noughts(self):
        self.assertIs(has_noughts(hill, (2,), (0,)), True)
        self.assertIs(has_noughts(hill, (0, 1), (1,)), False)
        self.assertIs(has_noughts(hill, (), (0, 1)), True)

    def test_half_pairs(self):
        self.assertIs(is_half_pair(hill, (three, two, one), (one, two, three)), True)
        self.assertIsNone(half_pair(plain))
        self.assertIsNone(half_pair(chain))


if __name__ == "__main__":
    unittest.main()
