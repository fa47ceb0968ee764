"""Carriers and how they work (points 13, 14 and 15)."""

import unittest
from fractions import Fraction
from itertools import product as all_of

from cornerranks.carriers import (
    carried, carrier_with, carry, coming, going, is_carrier, is_least_carrier, least_carrier, made_least, sizes_of)
from cornerranks.corners import low_ranks
from cornerranks.errors import InvalidNumber
from cornerranks.tables import is_table, part, product
from samples import (
    CHAIN, DOWN, FLAT, HALF, KINDS, NIL, ONE, STILL, TWO, Stream, broken, carried_number, carried_rows, column,
    drawn_carrier, drawn_row, drawn_sizes, huge, is_plain, low_ranks_of, numbers_of, rank_by_rows, sample_squares,
    small, sparse_squares, stepwise, table_from, times, unit, with_low_ranks)
from wrongs import ANYTHING, DEEP, HUGE, NO_CARRIERS, placed, wrong_carriers


def drawn_carriers(seed, each=4):
    """Carriers of one to six places, their sizes up to 0, to 1 and so on to 6, of all kinds of numbers."""
    stream = Stream(seed)
    for many in range(1, 7):
        for most in range(7):
            for k in range(each):
                kind = KINDS[(most + k) % 3] if most < 4 else small
                yield drawn_carrier(stream, drawn_sizes(stream, many, most), kind)
        for most in range(7):
            yield drawn_carrier(stream, (most,) * (many - 1))


def below(table):
    """The table with noughts from the middle on."""
    return tuple(tuple(number if i > j else NIL for j, number in enumerate(row)) for i, row in enumerate(table))


def low_part(table, cut):
    return part(table, tuple(range(cut, len(table))), tuple(range(cut)))


class Kinds(unittest.TestCase):
    def test_carriers(self):
        for carrier in drawn_carriers(101):
            self.assertIs(is_carrier(carrier), True)
            self.assertIs(is_carrier(value=carrier), True)

    def test_of_all_sizes_from_0_to_6(self):
        stream = Stream(102)
        for many in range(2, 7):
            for cut in range(1, many):
                for size in range(7):
                    for beside in (0, 1, 6):
                        sizes = placed((beside,) * (many - 1), cut - 1, size)
                        carrier = drawn_carrier(stream, sizes)
                        self.assertIs(is_carrier(carrier), True)
                        self.assertEqual(sizes_of(carrier), sizes)

    def test_small_ones(self):
        self.assertIs(is_carrier(((((), (), ()),))), True)
        self.assertIs(is_carrier(STILL[:1] * 6), True)
        self.assertIs(is_carrier(STILL[:1] * 7), False)
        self.assertIs(is_carrier(()), False)
        self.assertIs(is_carrier(((), (), ())), False)
        self.assertIs(is_carrier((((), ((),), (ONE,)), ((TWO,), (), ()))), True)
        self.assertIs(is_carrier(((((HUGE, 2),), (), ()),)), False)
        self.assertIs(is_carrier((((), ((),), ((HUGE, 2),)), (((1, HUGE),), (), ()))), True)

    def test_seven_places_and_sizes_above_6(self):
        stream = Stream(103)
        for size in range(7):
            self.assertIs(is_carrier(drawn_carrier(stream, (size,) * 5)), True)
            self.assertIs(is_carrier(drawn_carrier(stream, (size,) * 6)), False)
        for many in range(2, 7):
            for cut in range(many - 1):
                self.assertIs(is_carrier(drawn_carrier(stream, placed((2,) * (many - 1), cut, 7))), False)

    def test_almost_carriers(self):
        stream = Stream(104)
        carriers = [DOWN, STILL, drawn_carrier(stream, (6, 0, 1, 2, 6)), drawn_carrier(stream, (2,)), STILL[:1]]
        for carrier in carriers:
            self.assertIs(is_carrier(carrier), True)
            for wrong, _ in wrong_carriers(carrier):
                self.assertIs(is_carrier(wrong), False, wrong)
            for count in range(1, len(carrier)):
                so = not carrier[count][0]
                self.assertIs(is_carrier(carrier[:count]), so)
                self.assertIs(is_carrier(carrier[count:]), so)
        for value, _ in NO_CARRIERS:
            self.assertIs(is_carrier(value), False, value)

    def test_lists_in_the_place_of_tuples(self):
        for wrong in (
                list(DOWN), placed(DOWN, 1, list(DOWN[1])), placed(DOWN, 1, ([TWO], ((TWO,),), (ONE,))),
                placed(DOWN, 1, ((TWO,), [(TWO,)], (ONE,))), placed(DOWN, 1, ((TWO,), ([TWO],), (ONE,))),
                placed(DOWN, 1, ((TWO,), ((TWO,),), [ONE])), placed(DOWN, 1, ((TWO,), (([2, 1],),), (ONE,))),
                placed(DOWN, 0, ([], ((),), (ONE,))), placed(DOWN, 0, ((), ([],), (ONE,))),
                placed(DOWN, 2, ((TWO,), [], ())), placed(DOWN, 2, ((TWO,), (), []))):
            self.assertIs(is_carrier(wrong), False)

    def test_true_and_false_are_no_numbers(self):
        for number in ((True, 1), (1, True), (False, 1), (True, True), True, False):
            for place, wrong in enumerate(((number,), ((number,),), (number,))):
                self.assertIs(is_carrier(placed(DOWN, 1, placed(DOWN[1], place, wrong))), False)

    def test_anything_else(self):
        for value in ANYTHING + (DEEP, (DEEP,), (None,), ("abc",), ("P", "M", "Q"), ({}, {}, {}), CHAIN):
            self.assertIs(is_carrier(value), False)


class Carrying(unittest.TestCase):
    def test_sizes_and_what_is_carried(self):
        for carrier in drawn_carriers(105):
            self.assertEqual(sizes_of(carrier), tuple(len(inward) for _, _, inward in carrier[:-1]))
            told = carried(carrier)
            self.assertTrue(is_table(told) and is_plain(told))
            self.assertEqual(told, table_from(carried_rows(carrier)))
            self.assertEqual(told, below(told))

    def test_one_number_that_goes_through_all_places(self):
        for many in range(2, 7):
            middle = ((NIL,), (((3, 2),),), (NIL,))
            carrier = ((((), ((),), (ONE,)),) + (middle,) * (many - 2) + (((TWO,), (), ()),))
            expected = [[Fraction(3, 2) ** (many - 2) * 2 if (i, j) == (many - 1, 0) else 0 for j in range(many)]
                        for i in range(many)]
            self.assertEqual(carried(carrier), table_from(expected))

    def test_a_size_of_0_lets_nothing_through(self):
        stream = Stream(106)
        for many in range(2, 7):
            for cut in range(1, many):
                told = carried(drawn_carrier(stream, placed((3,) * (many - 1), cut - 1, 0)))
                self.assertEqual(rank_by_rows(numbers_of(low_part(told, cut))), 0)

    def test_carry(self):
        stream = Stream(107)
        for carrier in drawn_carriers(108):
            row = drawn_row(stream, len(carrier))
            told = carry(carrier, row)
            self.assertTrue(type(told) is tuple and is_plain(told) and is_table((told,)))
            self.assertEqual(column(told), product(carried(carrier), column(row)))
            self.assertEqual(told[0], NIL)

    def test_unit_rows_tell_the_columns(self):
        for carrier in drawn_carriers(109, each=1):
            told = tuple(carry(carrier, row) for row in unit(len(carrier)))
            self.assertEqual(tuple(zip(*told)), carried(carrier))

    def test_coming_and_going(self):
        for carrier in drawn_carriers(110):
            many, table = len(carrier), carried(carrier)
            for cut in range(1, many):
                size = sizes_of(carrier)[cut - 1]
                ahead, behind = coming(carrier, cut), going(carrier, cut)
                self.assertTrue(type(ahead) is tuple and is_plain(ahead) and type(behind) is tuple and is_plain(behind))
                self.assertEqual((len(ahead), len(behind)), (size, many - cut))
                if size == 0:
                    self.assertEqual((ahead, behind), ((), ((),) * (many - cut)))
                    self.assertEqual(low_part(table, cut), ((NIL,) * cut,) * (many - cut))
                else:
                    self.assertTrue(is_table(ahead) and is_table(behind))
                    self.assertEqual((len(ahead[0]), len(behind[0])), (cut, size))
                    self.assertEqual(product(behind, ahead), low_part(table, cut))

    def test_columns_of_coming_and_rows_of_going(self):
        stream = Stream(111)
        for many in range(2, 7):
            for sizes in ((1,) * (many - 1), (2,) * (many - 1), tuple(range(1, many)), tuple(range(many - 1, 0, -1))):
                carrier = drawn_carrier(stream, sizes, broken)
                for cut in range(1, many):
                    size = sizes[cut - 1]
                    # With 1 and noughts in the places of P and of Q at the cut the carried numbers are those of both.
                    for k in range(size):
                        one = unit(size)[k]
                        reads = placed(carrier, cut, (one,) + carrier[cut][1:])
                        expected = [carried_number(reads, cut, j) for j in range(cut)]
                        self.assertEqual(coming(carrier, cut)[k], table_from([expected])[0])
                        writes = placed(carrier, cut - 1, carrier[cut - 1][:2] + (one,))
                        expected = [carried_number(writes, i, cut - 1) for i in range(cut, many)]
                        self.assertEqual(tuple(row[k] for row in going(carrier, cut)), table_from([expected])[0])

    def test_just_the_cuts(self):
        for many in range(1, 7):
            carrier = drawn_carrier(Stream(112), (2,) * (many - 1))
            for function in (coming, going):
                for cut in range(1, many):
                    function(carrier, cut)
                for cut in (-1, 0, many, many + 1, True, None, (1,)):
                    with self.assertRaises(InvalidNumber) as caught:
                        function(carrier, cut)
                    self.assertIs(caught.exception.given, cut)


class Least(unittest.TestCase):
    def is_least_by_words(self, carrier):
        """Point 15: for each cut the rows of the coming table are free and the columns of the going one are."""
        return all(
            rank_by_rows(numbers_of(coming(carrier, cut))) == size == rank_by_rows(numbers_of(going(carrier, cut)))
            for cut, size in enumerate(sizes_of(carrier), 1))

    def tables(self, seed):
        stream = Stream(seed)
        yield from (table for table, _ in sample_squares(seed))
        yield from sparse_squares(seed, each=8)
        yield from (with_low_ranks(stream, lows) for count in range(6) for lows in stepwise(count))

    def test_is_least_carrier(self):
        found = {True: 0, False: 0}
        for carrier in drawn_carriers(113, each=8):
            so = sizes_of(carrier) == low_ranks_of(carried_rows(carrier))
            self.assertIs(is_least_carrier(carrier), so)
            self.assertIs(self.is_least_by_words(carrier), so)
            found[so] += 1
        self.assertGreater(min(found.values()), 50)

    def test_free_on_one_side_alone_is_not_least(self):
        for first, last in ((ONE, NIL), (NIL, ONE), (NIL, NIL)):
            carrier = (((), ((),), (first,)), ((last,), (), ()))
            self.assertIs(is_least_carrier(carrier), False)
            self.assertEqual(made_least(carrier), STILL[:2])
        self.assertIs(is_least_carrier((((), ((),), (ONE,)), ((HALF,), (), ()))), True)

    def test_least_carrier(self):
        for table in self.tables(114):
            told = least_carrier(table)
            self.assertTrue(is_carrier(told) and is_plain(told))
            self.assertEqual(carried(told), below(table))
            self.assertEqual(sizes_of(told), low_ranks(table))
            self.assertIs(is_least_carrier(told), True)
            self.assertTrue(self.is_least_by_words(told))

    def test_tables_of_one_row_and_of_noughts(self):
        for many in range(1, 7):
            self.assertEqual(least_carrier(((NIL,) * many,) * many), STILL[:1] * many)
            self.assertEqual(least_carrier(unit(many)), STILL[:1] * many)
        self.assertEqual(least_carrier(((TWO,),)), STILL[:1])

    def test_made_least(self):
        for carrier in drawn_carriers(115):
            told = made_least(carrier)
            self.assertTrue(is_carrier(told) and is_plain(told))
            self.assertEqual(carried(told), carried(carrier))
            self.assertEqual(sizes_of(told), low_ranks(carried(carrier)))
            self.assertIs(is_least_carrier(told), True)
            self.assertTrue(all(a <= b for a, b in zip(sizes_of(told), sizes_of(carrier))))

    def test_made_least_of_wide_ones(self):
        for table in self.tables(116):
            wide = carrier_with(table, (6,) * (len(table) - 1))
            self.assertEqual(is_least_carrier(wide), len(table) == 1)
            self.assertEqual(carried(made_least(wide)), below(table))
            self.assertEqual(sizes_of(made_least(wide)), low_ranks(table))


class Sizes(unittest.TestCase):
    def check(self, table, lows, sizes):
        told = carrier_with(table, sizes)
        if any(size < low for size, low in zip(sizes, lows)):
            self.assertIsNone(told)
            return
        self.assertTrue(is_carrier(told) and is_plain(told))
        self.assertEqual(sizes_of(told), sizes)
        self.assertEqual(carried(told), below(table))
        self.assertEqual(is_least_carrier(told), sizes == lows)

    def test_all_sizes_of_up_to_three_rows(self):
        stream = Stream(117)
        for count in range(3):
            for lows in stepwise(count):
                table = with_low_ranks(stream, lows)
                self.assertEqual(low_ranks(table), lows)
                for sizes in all_of(range(7), repeat=count):
                    self.check(table, lows, sizes)

    def test_sizes_of_four_rows(self):
        stream = Stream(118)
        for lows in stepwise(3):
            table = with_low_ranks(stream, lows)
            for sizes in all_of((0, 1, 2, 3, 6), repeat=3):
                self.check(table, lows, sizes)

    def test_sizes_above_at_and_below_low_ranks(self):
        stream = Stream(119)
        for count in (4, 5):
            for lows in stepwise(count):
                table = with_low_ranks(stream, lows)
                self.assertEqual(low_ranks(table), lows)
                self.check(table, lows, lows)
                self.check(table, lows, (0,) * count)
                self.check(table, lows, (6,) * count)
                self.check(table, lows, tuple(low + stream.below(7 - low) for low in lows))
                self.check(table, lows, tuple(stream.below(7) for _ in lows))
                for place, low in enumerate(lows):
                    for size in (low - 1, low + 1, 6):
                        if size >= 0:
                            self.check(table, lows, placed(lows, place, size))
                            self.check(table, lows, placed((6,) * count, place, size))

    def test_other_tables(self):
        stream = Stream(120)
        for table, _ in sample_squares(seed=121):
            for _ in range(6):
                self.check(table, low_ranks(table), tuple(stream.below(7) for _ in table[1:]))
        self.assertIsNone(carrier_with(FLAT, (0,)))
        self.assertEqual(carrier_with(((HALF,),), ()), STILL[:1])

    def test_sizes_are_free_of_the_low_parts_shape(self):
        # At the cuts of two rows a low part has one number alone, yet six may go over them.
        told = carrier_with(FLAT, (6,))
        self.assertEqual((sizes_of(told), carried(told)), ((6,), below(FLAT)))

    def test_a_table_that_is_carried_has_low_ranks_up_to_the_sizes(self):
        for carrier in drawn_carriers(122):
            ranks = low_ranks(carried(carrier))
            self.assertTrue(all(rank <= size for rank, size in zip(ranks, sizes_of(carrier))))
            self.assertEqual(carried(carrier_with(carried(carrier), sizes_of(carrier))), carried(carrier))

    def test_long_numbers(self):
        stream = Stream(123)
        for many in range(2, 7):
            table = table_from(times([[huge(stream), 1] for _ in range(many)], [[1] * many, [broken(stream)] * many]))
            self.check(table, low_ranks(table), low_ranks(table))
            self.check(table, low_ranks(table), (6,) * (many - 1))
        whole = (HUGE, 1)
        middle = ((whole,), ((whole,),), (whole,))
        carrier = (((), ((),), (whole,)), middle, middle, ((whole,), (), ()))
        self.assertEqual(carried(carrier)[3][0], (HUGE ** 4, 1))
        self.assertEqual(sizes_of(made_least(carrier)), (1, 1, 1))


if __name__ == "__main__":
    unittest.main()
