"""Bases, and the one row of them between two least carriers (point 16)."""

import unittest

from cornerranks.carriers import (
    bases_between, carried, carrier_with, coming, going, is_carrier, is_least_carrier, least_carrier, made_least,
    rebased, sizes_of)
from cornerranks.corners import low_ranks
from cornerranks.errors import InvalidBases, InvalidCarrier, NotLeast, UnlikeSizes
from cornerranks.inverses import inverse, is_regular
from cornerranks.tables import product
from samples import (
    DOWN, HALF, KINDS, LESS, NIL, ONE, STILL, TWO, Stream, drawn_carrier, drawn_sizes, is_plain, rows_of_rank, small,
    stepwise, table_from, unit, with_low_ranks)
from wrongs import HUGE, placed

WIDE = carrier_with(carried(DOWN), (2, 1))


def drawn_bases(stream, sizes, kind=small):
    return tuple(table_from(rows_of_rank(stream, kind, size, size, size)) if size else () for size in sizes)


def least_samples(seed):
    """Least carriers of all low ranks, and some of long numbers."""
    stream = Stream(seed)
    for count in range(6):
        for lows in stepwise(count):
            yield least_carrier(with_low_ranks(stream, lows))
    for many in range(2, 7):
        for kind in KINDS:
            yield made_least(drawn_carrier(stream, drawn_sizes(stream, many, 2), kind))


class Rebased(unittest.TestCase):
    def check(self, carrier, bases):
        told = rebased(carrier, bases)
        self.assertTrue(is_carrier(told) and is_plain(told))
        self.assertEqual(sizes_of(told), sizes_of(carrier))
        self.assertEqual(carried(told), carried(carrier))
        self.assertEqual(is_least_carrier(told), is_least_carrier(carrier))
        for cut, size in enumerate(sizes_of(carrier), 1):
            if size:
                base = bases[cut - 1]
                self.assertEqual(coming(told, cut), product(base, coming(carrier, cut)))
                self.assertEqual(going(told, cut), product(going(carrier, cut), inverse(base)))
            else:
                self.assertEqual((coming(told, cut), going(told, cut)), (coming(carrier, cut), going(carrier, cut)))
        back = tuple(inverse(base) if base else () for base in bases)
        self.assertEqual(rebased(told, back), carrier)
        return told

    def test_triples_by_the_words(self):
        base, other = ((ONE, TWO), (NIL, ONE)), ((HALF,),)
        carrier = (
            ((), ((), ()), (ONE, TWO)), ((TWO, ONE), ((ONE, LESS),), (TWO,)), ((HALF,), (), ()))
        # The inverse of the first base is (1, - 2), (0, 1), that of the second one 2.
        led = (((), ((), ()), ((5, 1), TWO)), ((TWO, (-3, 1)), ((HALF, (-3, 2)),), (ONE,)), ((ONE,), (), ()))
        self.assertEqual(rebased(carrier, (base, other)), led)

    def test_drawn_bases(self):
        stream = Stream(131)
        for many in range(1, 7):
            for most in range(7):
                for kind in KINDS[:2]:
                    carrier = drawn_carrier(stream, drawn_sizes(stream, many, most), kind)
                    self.check(carrier, drawn_bases(stream, sizes_of(carrier), kind))

    def test_least_carriers(self):
        stream = Stream(132)
        for carrier in least_samples(133):
            self.check(carrier, drawn_bases(stream, sizes_of(carrier)))

    def test_1_leaves_all(self):
        stream = Stream(134)
        for many in range(1, 7):
            carrier = drawn_carrier(stream, drawn_sizes(stream, many, 6))
            self.assertEqual(rebased(carrier, tuple(unit(size) for size in sizes_of(carrier))), carrier)

    def test_two_after_another_are_their_product(self):
        stream = Stream(135)
        for many in range(2, 7):
            carrier = drawn_carrier(stream, drawn_sizes(stream, many, 4))
            first, second = (drawn_bases(stream, sizes_of(carrier)) for _ in range(2))
            both = tuple(product(b, a) if a else () for a, b in zip(first, second))
            self.assertEqual(rebased(rebased(carrier, first), second), rebased(carrier, both))

    def test_sizes_of_bases(self):
        drawn = [drawn_carrier(Stream(136), sizes) for sizes in ((2, 0, 1), (6, 1, 6))]
        for carrier in drawn + [STILL, STILL[:1] * 6]:
            good = drawn_bases(Stream(138), sizes_of(carrier))
            self.check(carrier, good)
            for place, size in enumerate(sizes_of(carrier)):
                wrongs = [unit(k) for k in range(7) if k != size]
                wrongs += [None, [], ((ONE,) * (size + 1),) * size, ((NIL,) * size,) * size]
                # Without rows each of them is (), which is right for the size 0.
                for wrong in [wrong for wrong in wrongs if size or wrong != ()]:
                    with self.assertRaises(InvalidBases) as caught:
                        rebased(carrier, placed(good, place, wrong))
                    self.assertEqual(caught.exception.index, place)

    def test_a_singular_base(self):
        carrier = drawn_carrier(Stream(139), (3, 3))
        for rank in range(3):
            singular = table_from(rows_of_rank(Stream(140), small, 3, 3, rank))
            for bases, index in (((singular, unit(3)), 0), ((unit(3), singular), 1), ((singular, singular), 0)):
                with self.assertRaises(InvalidBases) as caught:
                    rebased(carrier, bases)
                self.assertEqual(caught.exception.index, index)


class Between(unittest.TestCase):
    def test_the_very_bases_that_led(self):
        stream = Stream(141)
        for carrier in least_samples(142):
            bases = drawn_bases(stream, sizes_of(carrier))
            led = rebased(carrier, bases)
            told = bases_between(carrier, led)
            self.assertTrue(type(told) is tuple and is_plain(told))
            self.assertEqual(told, bases)
            self.assertEqual(bases_between(led, carrier), tuple(inverse(base) if base else () for base in bases))
            self.assertEqual(bases_between(carrier, carrier), tuple(unit(size) for size in sizes_of(carrier)))

    def test_least_ones_made_in_other_ways(self):
        stream = Stream(143)
        tried = 0
        for many in range(1, 7):
            for most in range(4):
                for _ in range(8):
                    carrier = drawn_carrier(stream, drawn_sizes(stream, many, most))
                    if is_least_carrier(carrier):
                        other = least_carrier(carried(carrier))
                        told = bases_between(carrier, other)
                        self.assertTrue(all(is_regular(base) if base else base == () for base in told))
                        self.assertEqual(rebased(carrier, told), other)
                        tried += 1
        self.assertGreater(tried, 60)

    def test_one_place(self):
        self.assertEqual(bases_between(STILL[:1], STILL[:1]), ())
        self.assertEqual(bases_between(STILL, STILL), ((), ()))

    def test_unlike_numbers(self):
        stream = Stream(144)
        unlike = 0
        for count in range(1, 6):
            for lows in stepwise(count):
                carrier, other = (least_carrier(with_low_ranks(stream, lows)) for _ in range(2))
                if carried(carrier) != carried(other):
                    self.assertIsNone(bases_between(carrier, other))
                    unlike += 1
        self.assertGreater(unlike, 60)

    def test_one_unlike_number(self):
        # The same coming tables or the same going ones, but not both.
        stream = Stream(145)
        for carrier in least_samples(146):
            for place in range(len(carrier)):
                for part_of_triple in (0, 2):
                    row = carrier[place][part_of_triple]
                    if row:
                        doubled = tuple((2 * top, bottom) if bottom % 2 else (top, bottom // 2) for top, bottom in row)
                        other = placed(carrier, place, placed(carrier[place], part_of_triple, doubled))
                        if is_least_carrier(other) and carried(other) != carried(carrier):
                            led = rebased(other, drawn_bases(stream, sizes_of(other)))
                            self.assertIsNone(bases_between(carrier, other))
                            self.assertIsNone(bases_between(led, carrier))

    def test_unlike_sizes_of_least_ones(self):
        stream = Stream(147)
        for count in range(1, 6):
            found = [least_carrier(with_low_ranks(stream, lows)) for lows in stepwise(count)]
            for carrier, other in zip(found, found[1:]):
                self.assertIsNone(bases_between(carrier, other))
                self.assertIsNone(bases_between(other, carrier))

    def test_not_least(self):
        for carrier, other in ((DOWN, WIDE), (WIDE, DOWN), (WIDE, WIDE), (STILL, WIDE), (WIDE, STILL)):
            with self.assertRaises(NotLeast):
                bases_between(carrier, other)
        stream = Stream(148)
        for count in range(1, 6):
            for lows in stepwise(count)[::4]:
                table = with_low_ranks(stream, lows)
                least = least_carrier(table)
                for sizes in ((6,) * count, placed(lows, 0, lows[0] + 1), placed(lows, count - 1, lows[-1] + 1)):
                    wide = carrier_with(table, sizes)
                    # Whatever they carry: the same numbers, or others.
                    for other in (least, STILL[:1] * (count + 1)):
                        for pair in ((wide, other), (other, wide), (wide, wide)):
                            with self.assertRaises(NotLeast):
                                bases_between(*pair)

    def test_unlike_numbers_of_places(self):
        for carrier, other in ((DOWN, STILL[:2]), (STILL[:1], DOWN), (WIDE, STILL[:2]), (STILL[:1] * 6, WIDE)):
            with self.assertRaises(UnlikeSizes):
                bases_between(carrier, other)
            with self.assertRaises(UnlikeSizes):
                bases_between(carrier=other, other=carrier)
        with self.assertRaises(InvalidCarrier) as caught:
            bases_between(WIDE, DOWN[:2])
        self.assertEqual(caught.exception.index, 1)

    def test_long_numbers(self):
        first, second = (((HUGE, 3),),), (((1, HUGE),),)
        led = rebased(DOWN, (first, second))
        self.assertEqual(bases_between(DOWN, led), (first, second))
        self.assertEqual(low_ranks(carried(led)), (1, 1))


if __name__ == "__main__":
    unittest.main()
