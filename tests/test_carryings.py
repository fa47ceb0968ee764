"""Carryings, their sums, products, inverses and parts (points 17 and 18)."""

import unittest
from fractions import Fraction

from cornerranks.carriers import carried, carrier_with, is_least_carrier, least_carrier, sizes_of
from cornerranks.carryings import (
    inverse_of, is_carrying, is_least, least_carrying, part_of, product_of, solved_by, sum_of, table_of, turned_round)
from cornerranks.corners import high_ranks, low_ranks
from cornerranks.errors import InvalidRow, NotRegular, UnlikeSizes
from cornerranks.inverses import inverse, is_regular
from cornerranks.tables import is_table, part, product, turned_over
from samples import (
    CHAIN, DOWN, FLAT, KINDS, NIL, ONE, STILL, TWO, Stream, carrying_rows, column, drawn_carrier, drawn_carrying,
    drawn_row, is_plain, lots, numbers_of, sample_squares, sparse_squares, stepwise, table_from, times, unit,
    with_low_ranks)
from wrongs import ANYTHING, BOTH, HUGE, NO_CARRIERS, NO_CARRYINGS, placed


def drawn_carryings(seed, each=2):
    """Carryings of one to six places, their sizes up to 0, to 1 and so on to 6, of all kinds of numbers."""
    stream = Stream(seed)
    for many in range(1, 7):
        for most in range(7):
            for k in range(each):
                yield drawn_carrying(stream, many, most, KINDS[(most + k) % 3 if most < 3 else 0])
        sizes = (6,) * (many - 1)
        yield drawn_carrier(stream, sizes), drawn_row(stream, many), drawn_carrier(stream, sizes)


def regular_carryings(seed):
    """Carryings of regular tables, least ones and wide ones."""
    stream = Stream(seed)
    for carrying in drawn_carryings(seed):
        if is_regular(table_of(carrying)):
            yield carrying
    for table in sparse_squares(seed, each=4):
        down, middle, up = least_carrying(table)
        yield down, middle, up
        wide = tuple(size + stream.below(7 - size) for size in sizes_of(down))
        wider = tuple(size + stream.below(7 - size) for size in sizes_of(up))
        yield carrier_with(table, wide), middle, carrier_with(turned_over(table), wider)


def singular_carryings(seed):
    for table, rank in sample_squares(seed):
        if rank < len(table):
            yield least_carrying(table)
            down, middle, up = least_carrying(table)
            yield carrier_with(table, (6,) * (len(table) - 1)), middle, up


class Case(unittest.TestCase):
    def check(self, told, rows):
        """That a carrying is told, of the table of these rows."""
        self.assertTrue(is_carrying(told) and is_plain(told))
        self.assertEqual(table_of(told), table_from(rows))

    def within(self, sizes, bounds):
        self.assertEqual(len(sizes), len(bounds))
        self.assertTrue(all(size <= min(bound, 6) for size, bound in zip(sizes, bounds)), (sizes, bounds))

    def within_both(self, told, carrying, other):
        for k in (0, 2):
            bounds = [a + b for a, b in zip(sizes_of(carrying[k]), sizes_of(other[k]))]
            self.within(sizes_of(told[k]), bounds)


class Kinds(unittest.TestCase):
    def test_carryings(self):
        for carrying in drawn_carryings(151):
            self.assertIs(is_carrying(carrying), True)
            self.assertIs(is_carrying(value=carrying), True)

    def test_almost_carryings(self):
        for value in NO_CARRYINGS:
            self.assertIs(is_carrying(value), False, value)
        for wrong, _ in NO_CARRIERS:
            for many in (1, 2, 3, 4, 7):
                for other in (STILL[:1] * many, wrong):
                    self.assertIs(is_carrying((wrong, (ONE,) * many, other)), False)
                    self.assertIs(is_carrying((other, (ONE,) * many, wrong)), False)

    def test_unlike_numbers_of_places(self):
        stream = Stream(152)
        for many in range(1, 7):
            for wide in range(1, 8):
                for other in range(1, 7):
                    carrying = (drawn_carrier(stream, (1,) * (many - 1)), (ONE,) * wide, STILL[:1] * other)
                    self.assertIs(is_carrying(carrying), many == wide == other)

    def test_anything_else(self):
        for value in ANYTHING:
            self.assertIs(is_carrying(value), False)
            self.assertIs(is_carrying((value, value, value)), False)
            self.assertIs(is_carrying((DOWN, value, STILL)), False)


class Tables(Case):
    def test_table_of(self):
        for carrying in drawn_carryings(153):
            told = table_of(carrying)
            self.assertTrue(is_table(told) and is_plain(told))
            self.assertEqual(told, table_from(carrying_rows(carrying)))

    def test_down_middle_and_up(self):
        self.assertEqual(table_of((STILL, (ONE, TWO, NIL), STILL)), table_from([[1, 0, 0], [0, 2, 0], [0, 0, 0]]))
        self.assertEqual(table_of((DOWN, (NIL,) * 3, STILL)), carried(DOWN))
        self.assertEqual(table_of((STILL, (NIL,) * 3, DOWN)), turned_over(carried(DOWN)))
        self.assertEqual(table_of((STILL[:1], ((HUGE, 2),), STILL[:1])), (((HUGE, 2),),))

    def test_up_and_down_exchanged_turn_it_over(self):
        for down, middle, up in drawn_carryings(154):
            self.assertEqual(table_of((up, middle, down)), turned_over(table_of((down, middle, up))))

    def test_least_carrying(self):
        stream = Stream(155)
        tables = [table for table, _ in sample_squares(156)] + sparse_squares(157)
        tables += [with_low_ranks(stream, lows) for count in range(6) for lows in stepwise(count)]
        for table in tables:
            told = least_carrying(table)
            self.check(told, numbers_of(table))
            self.assertEqual((sizes_of(told[0]), sizes_of(told[2])), (low_ranks(table), high_ranks(table)))
            self.assertIs(is_least(told), True)

    def test_is_least(self):
        found = {True: 0, False: 0}
        for carrying in list(drawn_carryings(158, each=6)) + list(regular_carryings(159)):
            table = table_of(carrying)
            so = (sizes_of(carrying[0]), sizes_of(carrying[2])) == (low_ranks(table), high_ranks(table))
            self.assertIs(is_least(carrying), so)
            found[so] += 1
        self.assertGreater(min(found.values()), 50)

    def test_both_carriers_count(self):
        wide = carrier_with(carried(DOWN), (2, 1))
        for down, up, so in ((DOWN, DOWN, True), (DOWN, wide, False), (wide, DOWN, False), (wide, wide, False)):
            self.assertIs(is_least((down, (NIL,) * 3, up)), so)


class TurnedRound(Case):
    def test_triples_by_the_words(self):
        stream = Stream(160)
        for many in range(1, 7):
            for most in range(7):
                down, middle, up = drawn_carrying(stream, many, most)
                told = turned_round((down, middle, up))
                for carrier, other in ((told[0], up), (told[2], down)):
                    for i in range(many):
                        outward, onward, inward = other[many - 1 - i]
                        over = tuple(tuple(row[k] for row in onward) for k in range(len(outward)))
                        self.assertEqual(carrier[i], (inward, over, outward))
                self.assertEqual(told[1], tuple(reversed(middle)))

    def test_table_has_its_places_from_behind(self):
        for carrying in drawn_carryings(161):
            told = turned_round(carrying)
            self.check(told, [row[::-1] for row in carrying_rows(carrying)[::-1]])
            self.assertEqual(turned_round(told), carrying)
            self.assertEqual(sizes_of(told[0]), sizes_of(carrying[2])[::-1])
            self.assertEqual(sizes_of(told[2]), sizes_of(carrying[0])[::-1])
            self.assertEqual(is_least(told), is_least(carrying))


class SumsAndProducts(Case):
    def pairs(self, seed):
        stream = Stream(seed)
        for carrying in drawn_carryings(seed):
            many = len(carrying[1])
            yield carrying, drawn_carrying(stream, many, stream.below(7))
            yield carrying, carrying

    def test_sum_of(self):
        above = 0
        for carrying, other in self.pairs(162):
            told = sum_of(carrying, other)
            rows = zip(carrying_rows(carrying), carrying_rows(other))
            self.check(told, [[a + b for a, b in zip(row, more)] for row, more in rows])
            self.within_both(told, carrying, other)
            above += any(a + b > 6 for a, b in zip(sizes_of(carrying[0]), sizes_of(other[0])))
        self.assertGreater(above, 10)

    def test_product_of_in_both_orders(self):
        above = 0
        for carrying, other in self.pairs(163):
            for first, second in ((carrying, other), (other, carrying)):
                told = product_of(first, second)
                self.check(told, times(carrying_rows(first), carrying_rows(second)))
                self.within_both(told, first, second)
            above += any(a + b > 6 for a, b in zip(sizes_of(carrying[2]), sizes_of(other[2])))
        self.assertGreater(above, 10)

    def test_product_has_its_order(self):
        first, second = least_carrying(((ONE, ONE), (NIL, ONE))), least_carrying(((ONE, NIL), (ONE, ONE)))
        self.assertEqual(table_of(product_of(first, second)), ((TWO, ONE), (ONE, ONE)))
        self.assertEqual(table_of(product_of(second, first)), ((ONE, ONE), (ONE, TWO)))

    def test_with_1_and_with_noughts(self):
        for carrying in drawn_carryings(164, each=1):
            many = len(carrying[1])
            still = STILL[:1] * many
            one, noughts = (still, (ONE,) * many, still), (still, (NIL,) * many, still)
            for told in (product_of(carrying, one), product_of(one, carrying), sum_of(carrying, noughts)):
                self.check(told, carrying_rows(carrying))
                self.within_both(told, carrying, one)
            self.assertEqual(sum_of(noughts, noughts), noughts)
            self.assertEqual(product_of(carrying, noughts), noughts)

    def test_unlike_sizes(self):
        stream = Stream(165)
        for many in range(1, 7):
            for wide in range(1, 7):
                carrying, other = drawn_carrying(stream, many, 2), drawn_carrying(stream, wide, 2)
                for function in (sum_of, product_of):
                    if many == wide:
                        self.assertTrue(is_carrying(function(carrying, other)))
                        continue
                    with self.assertRaises(UnlikeSizes):
                        function(carrying, other)
                    with self.assertRaises(UnlikeSizes):
                        function(carrying=carrying, other=other)


class Inverses(Case):
    def test_inverse_of(self):
        tried = 0
        for carrying in regular_carryings(166):
            table = table_of(carrying)
            told = inverse_of(carrying)
            self.check(told, numbers_of(inverse(table)))
            self.assertIs(is_least(told), True)
            self.assertEqual((sizes_of(told[0]), sizes_of(told[2])), (low_ranks(table), high_ranks(table)))
            self.assertEqual(table_of(product_of(told, carrying)), unit(len(table)))
            tried += 1
        self.assertGreater(tried, 60)

    def test_solved_by(self):
        stream = Stream(167)
        for carrying in regular_carryings(168):
            row = drawn_row(stream, len(carrying[1]))
            told = solved_by(carrying, row)
            self.assertTrue(type(told) is tuple and is_plain(told))
            self.assertEqual(product(table_of(carrying), column(told)), column(row))

    def test_singular(self):
        for carrying in singular_carryings(169):
            self.assertIs(is_regular(table_of(carrying)), False)
            many = len(carrying[1])
            with self.assertRaises(NotRegular):
                inverse_of(carrying)
            for row in ((NIL,) * many, (ONE,) * many, unit(many)[0]):
                with self.assertRaises(NotRegular):
                    solved_by(carrying, row)
            with self.assertRaises(InvalidRow) as caught:
                solved_by(carrying, (NIL,) * (many - 1) + (None,))
            self.assertEqual(caught.exception.index, many - 1)
            with self.assertRaises(InvalidRow) as caught:
                solved_by(carrying, (NIL,) * (many + 1))
            self.assertIsNone(caught.exception.index)

    def test_a_singular_table_of_a_carrying_without_noughts(self):
        with self.assertRaises(NotRegular):
            inverse_of(least_carrying(FLAT))
        with self.assertRaises(NotRegular):
            inverse_of((STILL, (ONE, NIL, ONE), DOWN))

    def test_long_numbers(self):
        great = placed(CHAIN, 1, ((-HUGE, 3), (1, HUGE), (HUGE, 1)))
        told = inverse_of(least_carrying(great))
        self.assertEqual(table_of(inverse_of(told)), great)


class Parts(Case):
    def test_part_of(self):
        for carrying in list(drawn_carryings(170, each=1)) + list(regular_carryings(171))[::3]:
            table, rows = table_of(carrying), carrying_rows(carrying)
            for lot in lots(len(table))[1:]:
                told = part_of(carrying, lot)
                self.check(told, [[rows[i][j] for j in lot] for i in lot])
                self.assertEqual(table_of(told), part(table, lot, lot))
                for k in (0, 2):
                    # The size at the cut c stands at c - 1.
                    bounds = [min(sizes_of(carrying[k])[i:j]) for i, j in zip(lot, lot[1:])]
                    self.within(sizes_of(told[k]), bounds)

    def test_all_places(self):
        for carrying in drawn_carryings(172, each=1):
            told = part_of(carrying, tuple(range(len(carrying[1]))))
            self.assertEqual(table_of(told), table_of(carrying))

    def test_a_narrow_cut_between_two_places(self):
        stream = Stream(173)
        for many in range(3, 7):
            for cut in range(1, many):
                sizes = placed((5,) * (many - 1), cut - 1, 1)
                carrier = drawn_carrier(stream, sizes)
                told = part_of((carrier, (ONE,) * many, carrier), (0, many - 1))
                self.within(sizes_of(told[0]), (1,))
                self.within(sizes_of(told[2]), (1,))


class Claims(Case):
    """What point 18 tells of all carryings, beside the functions."""

    def test_the_inverse_is_carried_by_none_of_lesser_sizes(self):
        for table in sparse_squares(seed=174, each=4):
            other = inverse(table)
            for place, size in enumerate(low_ranks(table)):
                self.assertIsNotNone(carrier_with(other, low_ranks(table)))
                if size:
                    self.assertIsNone(carrier_with(other, placed((6,) * (len(table) - 1), place, size - 1)))

    def test_carriers_of_a_table_that_is_read_the_other_way(self):
        table = table_from([[Fraction(1, i + j + 1) for j in range(4)] for i in range(4)])
        self.assertTrue(is_least_carrier(least_carrier(turned_over(table))))
        self.assertEqual(sizes_of(least_carrying(table)[2]), high_ranks(table))
        self.assertEqual(table_of(BOTH), table_from([[1, 0, 0], [2, 1, 0], [4, 2, 1]]))


if __name__ == "__main__":
    unittest.main()
