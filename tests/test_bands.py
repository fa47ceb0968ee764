"""Bands, their fillings and the determinants of these (point 26)."""

import unittest
from fractions import Fraction

from cornerranks.errors import InvalidBand, NotRegular
from cornerranks.fillings import band_determinant, band_filling, is_band
from cornerranks.inverses import determinant, inverse, is_regular
from cornerranks.shapes import inverse_width_above, inverse_width_below
from samples import (
    CHAIN, HALF, LESS, NIL, ONE, TWO, Stream, broken, determinant_by_orders, drawn_band, huge, is_plain, numbers_of,
    pair, rank_by_rows, small, table_from, unit)
from wrongs import ANYTHING, HUGE, NO_BANDS, placed


def told_parts(band, width, count):
    """The parts of so many neighbouring rows and columns that are blocks, or overlaps."""
    many = len(band)
    begins = range(many - width) if count > width else range(1, many - width)
    return [[[Fraction(*band[i][j]) for j in range(k, k + count)] for i in range(k, k + count)] for k in begins]


def blocks(band, width):
    return told_parts(band, width, width + 1)


def overlaps(band, width):
    return told_parts(band, width, width)


def is_filled(band, width):
    """Whether all blocks and overlaps are regular."""
    return all(rank_by_rows(rows) == len(rows) for rows in blocks(band, width) + overlaps(band, width))


class Bands(unittest.TestCase):
    def test_all_widths(self):
        stream = Stream(341)
        for many in range(1, 7):
            for width in range(many):
                self.assertIs(is_band(drawn_band(stream, many, width)), True)
                self.assertIs(is_band(((NIL,) * many,) * many), True)

    def test_one_place_more_or_less(self):
        stream = Stream(342)
        for many in range(2, 7):
            for width in range(many):
                band = drawn_band(stream, many, width)
                for i in range(many):
                    for j in range(many):
                        other = None if band[i][j] is not None else ONE
                        for value in (other, (2, 2), True, 0, [1, 1], (), (1, True)):
                            wrong = placed(band, i, placed(band[i], j, value))
                            self.assertIs(is_band(wrong), False)
                            for function in (band_filling, band_determinant):
                                with self.assertRaises(InvalidBand) as caught:
                                    function(wrong)
                                self.assertIs(caught.exception.given, wrong)

    def test_any_value(self):
        for value in NO_BANDS + ANYTHING:
            self.assertIs(is_band(value), False)
        for value in (((ONE,),), ((NIL,),), ((ONE, None), (None, ONE)), ((ONE, TWO), (HALF, ONE)), CHAIN):
            self.assertIs(is_band(value), True)

    def test_seven_places(self):
        self.assertIs(is_band(drawn_band(Stream(343), 7, 2)), False)
        with self.assertRaises(InvalidBand):
            band_filling(((ONE,) * 7,) * 7)


class Fillings(unittest.TestCase):
    def check(self, band, width):
        many = len(band)
        if not is_filled(band, width):
            for function in (band_filling, band_determinant):
                with self.assertRaises(NotRegular):
                    function(band)
            return False
        told = band_filling(band)
        self.assertTrue(is_plain(told))
        self.assertEqual((len(told), {len(row) for row in told}), (many, {many}))
        for i in range(many):
            for j in range(many):
                if band[i][j] is not None:
                    self.assertEqual(told[i][j], band[i][j])
        self.assertIs(is_regular(told), True)
        back = inverse(told)
        for i in range(many):
            for j in range(many):
                if abs(i - j) > width:
                    self.assertEqual(back[i][j], NIL)
        self.assertLessEqual(max(inverse_width_below(told), inverse_width_above(told)), width)
        self.assertEqual(band_determinant(band), self.by_parts(band, width))
        self.assertEqual(band_determinant(band), determinant(told))
        self.assertEqual(self.inverse_by_parts(band, width), numbers_of(back))
        return True

    def by_parts(self, band, width):
        found = Fraction(1)
        for rows in blocks(band, width):
            found *= determinant_by_orders(rows)
        for rows in overlaps(band, width):
            found /= determinant_by_orders(rows)
        return pair(found)

    def inverse_by_parts(self, band, width):
        """The sum of the inverses of the blocks less those of the overlaps, each in its places."""
        many = len(band)
        rows = [[Fraction(0)] * many for _ in range(many)]
        for sign, least, parts in ((1, 0, blocks(band, width)), (-1, 1, overlaps(band, width) if width else [])):
            for at, part in enumerate(parts):
                for i, row in enumerate(numbers_of(inverse(table_from(part)))):
                    for j, number in enumerate(row):
                        rows[at + least + i][at + least + j] += sign * number
        return rows

    def test_drawn_bands(self):
        stream = Stream(344)
        found = [0, 0]
        for many in range(1, 7):
            for width in range(many):
                for draw in (small, small, small, broken, small, small):
                    found[self.check(drawn_band(stream, many, width, draw), width)] += 1
        self.assertGreater(min(found), 15, found)

    def test_long_numbers(self):
        stream = Stream(345)
        for many, width in ((1, 0), (3, 1), (4, 2), (6, 1)):
            self.assertTrue(self.check(drawn_band(stream, many, width, huge), width))
        told = band_filling((((HUGE, 2), ONE, None), (TWO, (1, HUGE), LESS), (None, (HUGE, 3), HALF)))
        self.assertEqual(told[0][2], (-HUGE, 1))

    def test_width_0(self):
        for many in range(1, 7):
            band = tuple(tuple((2 * k + 1, 2) if i == k else None for i in range(many)) for k in range(many))
            told = band_filling(band)
            self.assertEqual(told, tuple(tuple(number or NIL for number in row) for row in band))
            self.assertTrue(self.check(band, 0))
            for k in range(many):
                with self.assertRaises(NotRegular):
                    band_filling(placed(band, k, placed(band[k], k, NIL)))

    def test_all_told(self):
        stream = Stream(346)
        for many in range(1, 7):
            band = drawn_band(stream, many, many - 1, broken)
            self.assertTrue(self.check(band, many - 1))
            self.assertEqual(band_filling(band), band)
            self.assertEqual(band_determinant(band), determinant(band))
        for band in (((NIL,),), ((ONE, ONE), (ONE, ONE)), ((ONE,) * 6,) * 6):
            self.assertFalse(self.check(band, len(band) - 1))

    def test_singular_blocks_and_overlaps(self):
        stream = Stream(347)
        for many in range(3, 7):
            for width in range(1, many - 1):
                for at in range(many):
                    # A row and a column of noughts, within the band, make each part singular that has them.
                    band = drawn_band(stream, many, width, broken)
                    band = tuple(tuple(number and (NIL if at in (i, j) else number) for j, number in enumerate(row))
                                 for i, row in enumerate(band))
                    self.assertFalse(self.check(band, width))
        # Regular blocks with a singular overlap, and a singular block with regular overlaps.
        self.assertFalse(self.check(((ONE, ONE, None), (ONE, NIL, ONE), (None, ONE, ONE)), 1))
        self.assertFalse(self.check(((ONE, ONE, None), (ONE, ONE, ONE), (None, ONE, TWO)), 1))
        self.assertFalse(self.check(((TWO, ONE, None), (ONE, ONE, ONE), (None, ONE, ONE)), 1))

    def test_singular_parts_that_are_no_blocks(self):
        # The first and the last number are 0, but belong to no overlap.
        band = ((NIL, ONE, None), (ONE, ONE, ONE), (None, ONE, NIL))
        self.assertTrue(self.check(band, 1))
        self.assertEqual(band_determinant(band), ONE)

    def test_just_one_filling(self):
        stream = Stream(348)
        for many in range(2, 6):
            for width in range(many - 1):
                band = drawn_band(stream, many, width, broken)
                if not is_filled(band, width):
                    continue
                told = band_filling(band)
                for i in range(many):
                    for j in range(many):
                        if band[i][j] is None:
                            number = pair(Fraction(*told[i][j]) + 1)
                            other = placed(told, i, placed(told[i], j, number))
                            self.assertFalse(is_regular(other) and self.has_noughts(other, width))

    def has_noughts(self, table, width):
        back = inverse(table)
        return all(back[i][j] == NIL for i in range(len(back)) for j in range(len(back)) if abs(i - j) > width)

    def test_of_the_inverse_of_a_band(self):
        # The band of a table whose inverse has these widths is filled to this table again.
        stream = Stream(349)
        for many in range(1, 7):
            for width in range(many):
                table = inverse(table_from([[Fraction(9 if i == j else stream.below(3) - 1) if abs(i - j) <= width
                                             else Fraction(0) for j in range(many)] for i in range(many)]))
                band = tuple(tuple(number if abs(i - j) <= width else None for j, number in enumerate(row))
                             for i, row in enumerate(table))
                self.assertEqual(band_filling(band), table)

    def test_one_place(self):
        self.assertEqual(band_filling(((HALF,),)), ((HALF,),))
        self.assertEqual(band_determinant(((HALF,),)), HALF)
        self.assertEqual(band_filling(unit(4)), unit(4))


if __name__ == "__main__":
    unittest.main()
