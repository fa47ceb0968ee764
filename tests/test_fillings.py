"""Stairs, their fillings, and the ranks of these (points 23, 24 and 25)."""

import unittest
from fractions import Fraction
from itertools import product as all_of

from cornerranks.errors import InvalidNumber, InvalidStairs
from cornerranks.fillings import (
    filling_of_rank, greatest_filling, greatest_rank, has_one_least, is_filling, is_stairs, least_filling, least_rank)
from cornerranks.tables import rank_of
from samples import (
    CHAIN, HALF, LESS, LONG, NIL, ONE, TALL, TWO, Stream, broken, drawn_stairs, huge, is_plain, multiples, numbers_of,
    rank_by_rows, sample_tables, shapes_of, small, table_from, turned_stairs)
from wrongs import ANYTHING, HUGE, NO_STAIRS, NO_TABLES, STEPS

FREE = ((), (ONE,))
EVEN = ((NIL,), (NIL, ONE))


def told_rank(rows, top, wide):
    return rank_by_rows([row[:wide] for row in rows[top:]])


def least_by_rows(rows):
    """The sum of point 23, row by row."""
    return sum(told_rank(rows, i, len(row)) - told_rank(rows, i + 1, len(row)) for i, row in enumerate(rows))


def widths_and_tops(rows, size):
    widths = sorted({len(row) for row in rows} | {size})
    return widths, [next((i for i, row in enumerate(rows) if len(row) >= wide), len(rows)) for wide in widths]


def rectangles(rows, size):
    """The ranks of the R_t, and those of the common parts of neighbouring ones (points 23 and 25)."""
    widths, tops = widths_and_tops(rows, size)
    ranks = [told_rank(rows, top, wide) for wide, top in zip(widths, tops)]
    return ranks, [told_rank(rows, top, wide) for wide, top in zip(widths, tops[1:])]


def greatest_by_words(rows, size):
    many = len(rows)
    return min([many, size] + [i + size - len(row) + told_rank(rows, i, len(row)) for i, row in enumerate(rows)])


def all_fillings(stairs, size, numbers):
    """All fillings with some of these numbers wherever none is told."""
    free = [size - len(row) for row in stairs]
    for values in all_of(numbers, repeat=sum(free)):
        left = list(values)
        yield tuple(row + tuple((left.pop(), 1) for _ in range(count)) for row, count in zip(stairs, free))


def one_least(stairs, size, number):
    """A filling of the least rank, with this number in the rows that are no sums of those behind them."""
    rows = []
    for told in reversed(numbers_of(stairs)):
        by = multiples(told, [row[:len(told)] for row in rows])
        if by is None:
            row = told + [Fraction(number)] * (size - len(told))
        else:
            row = [sum((a * line[k] for a, line in zip(by, rows)), Fraction(0)) for k in range(size)]
        rows = [row] + rows
    return table_from(rows)


def some_least(stairs, size):
    """Fillings of the least rank, unlike ones wherever rows or columns leave a choice."""
    found = [one_least(stairs, size, number) for number in (0, 1, -2)]
    turned = turned_stairs(stairs, size)
    if turned:
        found += [turned_stairs(one_least(turned, len(stairs), number), len(stairs)) for number in (0, 1)]
    return found


class Case(unittest.TestCase):
    def check(self, stairs, size):
        rows = numbers_of(stairs)
        least, greatest = least_rank(size, stairs), greatest_rank(size, stairs)
        ranks, shared = rectangles(rows, size)
        self.assertEqual(least, least_by_rows(rows))
        self.assertEqual(least, sum(ranks) - sum(shared))
        self.assertEqual(greatest, greatest_by_words(rows, size))
        self.assertTrue(is_plain((least, greatest)))
        self.fits(stairs, size, least_filling(size, stairs), least)
        self.fits(stairs, size, greatest_filling(size, stairs), greatest)
        for rank in range(7):
            told = filling_of_rank(size, stairs, rank)
            if least <= rank <= greatest:
                self.fits(stairs, size, told, rank)
            else:
                self.assertIsNone(told)
        self.assertIs(has_one_least(size, stairs), len(set(ranks + shared)) == 1)
        return least, greatest

    def fits(self, stairs, size, told, rank):
        self.assertTrue(is_plain(told))
        self.assertEqual((len(told), {len(row) for row in told}), (len(stairs), {size}))
        for row, begun in zip(told, stairs):
            self.assertEqual(row[:len(begun)], begun)
        self.assertIs(is_filling(size, stairs, told), True)
        self.assertEqual(rank_by_rows(numbers_of(told)), rank)
        self.assertEqual(rank_of(told), rank)


class Ranks(Case):
    def test_all_small_stairs_and_fillings(self):
        for size in range(1, 4):
            for many in range(1, 4):
                for counts in shapes_of(many, size):
                    if size * many - sum(counts) <= 5:
                        for numbers in all_of((0, 1), repeat=min(sum(counts), 6)):
                            left = list(numbers) + [1, 0, 1]
                            self.check_all(tuple(tuple((left.pop(), 1) for _ in range(count)) for count in counts),
                                           size)

    def check_all(self, stairs, size):
        least, greatest = self.check(stairs, size)
        ranks = [rank_of(filling) for filling in all_fillings(stairs, size, (-1, 0, 1))]
        self.assertGreaterEqual(min(ranks), least)
        # Drawn from so few numbers, too, some filling is as far from singular as any can be.
        self.assertEqual(max(ranks), greatest)
        if has_one_least(size, stairs):
            self.assertLessEqual(ranks.count(least), 1)
        else:
            self.assertNotEqual(ranks.count(least), 1)

    def test_drawn_stairs(self):
        stream = Stream(321)
        found = set()
        for size in range(1, 7):
            for many in range(1, 7):
                for draw in (small, small, broken, small, huge):
                    least, greatest = self.check(drawn_stairs(stream, many, size, draw), size)
                    found.add((least, greatest))
        self.assertTrue({(0, 0), (0, 2), (0, 6), (1, 1), (1, 4), (2, 5), (3, 3), (3, 5)} <= found, found)

    def test_turned_over_and_round(self):
        stream = Stream(322)
        for size in range(1, 7):
            for many in range(1, 7):
                for _ in range(4):
                    stairs = drawn_stairs(stream, many, size)
                    turned = turned_stairs(stairs, size)
                    self.assertEqual(least_rank(many, turned), least_rank(size, stairs))
                    self.assertEqual(greatest_rank(many, turned), greatest_rank(size, stairs))
                    self.assertIs(has_one_least(many, turned), has_one_least(size, stairs))

    def test_drawn_fillings_keep_within(self):
        stream = Stream(323)
        for size in range(2, 7):
            for many in range(2, 7):
                stairs = drawn_stairs(stream, many, size)
                least, greatest = least_rank(size, stairs), greatest_rank(size, stairs)
                for _ in range(6):
                    filling = table_from([list(row) + [small(stream) for _ in range(size - len(row))]
                                          for row in numbers_of(stairs)])
                    self.assertTrue(least <= rank_of(filling) <= greatest)

    def test_nothing_told(self):
        for size in range(1, 7):
            for many in range(1, 7):
                stairs = ((),) * many
                self.assertEqual(self.check(stairs, size), (0, min(many, size)))
                self.assertIs(has_one_least(size, stairs), True)
                self.assertEqual(least_filling(size, stairs), ((NIL,) * size,) * many)

    def test_all_told(self):
        for table, rank in sample_tables(seed=324):
            size = len(table[0])
            self.assertEqual(self.check(table, size), (rank, rank))
            self.assertIs(has_one_least(size, table), True)
            self.assertEqual(filling_of_rank(size, table, rank), table)

    def test_one_row(self):
        for size in range(1, 7):
            for count in range(size + 1):
                self.assertEqual(self.check(((NIL,) * count,), size), (0, int(count < size)))
                if count:
                    self.assertEqual(self.check(((TWO,) * count,), size), (1, 1))
                    self.assertIs(has_one_least(size, ((TWO,) * count,)), count == size)

    def test_one_column(self):
        self.assertEqual(self.check(((), (), (ONE,)), 1), (1, 1))
        self.assertEqual(self.check(((), (NIL,), (NIL,)), 1), (0, 1))
        self.assertEqual(self.check(((NIL,), (NIL,)), 1), (0, 0))
        self.assertIs(has_one_least(1, ((), (ONE,))), False)
        self.assertIs(has_one_least(1, ((), (NIL,))), True)

    def test_long_numbers(self):
        stairs = (((HUGE, 2), (1, HUGE)), ((HUGE, 3), (2, 3 * HUGE), LESS), (HALF, (1, HUGE), (HUGE, 7), NIL))
        self.assertEqual(self.check(stairs, 5), (2, 3))
        told = least_filling(5, (stairs[0], stairs[0] + (TWO,), stairs[0] + (TWO, (HUGE, 9))))
        self.assertEqual(told, (stairs[0] + (TWO, (HUGE, 9), NIL),) * 3)


class OneLeast(Case):
    def test_some_other_one_exactly_if_there_is_one(self):
        stream = Stream(325)
        found = [0, 0]
        for size in range(1, 7):
            for many in range(1, 7):
                for _ in range(8):
                    stairs = drawn_stairs(stream, many, size)
                    so, least = has_one_least(size, stairs), least_rank(size, stairs)
                    told = some_least(stairs, size)
                    for filling in told:
                        self.fits(stairs, size, filling, least)
                    self.assertIs(all(filling == told[0] for filling in told), so)
                    if so:
                        self.assertEqual(least_filling(size, stairs), told[0])
                    found[so] += sum(len(row) for row in stairs) < size * many
        self.assertGreater(min(found), 10, found)

    def test_those_that_are_settled(self):
        # Parts of tables of one rank, with free corners far enough from the middle.
        for rank in range(1, 4):
            for size in range(rank + 1, 7):
                for many in range(rank + 1, 7):
                    left = [[Fraction(i + 1) ** k for k in range(rank)] for i in range(many)]
                    right = [[Fraction(2 * j + 1) ** k for j in range(size)] for k in range(rank)]
                    table = table_from([[sum(a * b for a, b in zip(row, column)) for column in zip(*right)]
                                        for row in left])
                    stairs = tuple(row if i >= many - rank else row[:rank] for i, row in enumerate(table))
                    self.assertEqual(least_rank(size, stairs), rank)
                    self.assertIs(has_one_least(size, stairs), True)
                    self.assertEqual(least_filling(size, stairs), table)
                    self.assertIs(has_one_least(size, ((),) + stairs[1:]), False)

    def test_by_hand(self):
        for size, stairs, so in (
                (2, STEPS, True), (2, EVEN, False), (2, FREE, False), (2, ((), ()), True), (2, ((), (NIL,)), True),
                (2, ((), (ONE, ONE)), False), (2, ((NIL, NIL), (ONE, ONE)), True), (3, STEPS, False),
                (2, ((ONE,), (ONE,)), False), (2, ((NIL,), (NIL,)), True), (2, ((TWO,), (LESS, NIL)), True)):
            self.assertIs(has_one_least(size, stairs), so)


class Fillings(unittest.TestCase):
    def test_is_stairs(self):
        for size in range(1, 7):
            for many in range(1, 7):
                for counts in shapes_of(many, size) if many < 5 else [(size,) * many, (0,) * many]:
                    stairs = tuple((HALF,) * count for count in counts)
                    self.assertIs(is_stairs(size, stairs), True)
                    self.assertIs(is_stairs(size, stairs[::-1]), counts[0] == counts[-1])
                    self.assertIs(is_stairs(6, stairs), True)
                    self.assertIs(is_stairs(max(size - 1, 1), stairs), counts[-1] < size or size == 1)
        for value, _ in NO_STAIRS:
            self.assertIs(is_stairs(3, value), False)
        for value in (CHAIN, LONG, TALL, STEPS, FREE, ((),)):
            self.assertIs(is_stairs(3, value), True)

    def test_is_filling(self):
        for size, stairs, value, so in (
                (2, EVEN, ((NIL, TWO), (NIL, ONE)), True), (2, EVEN, ((NIL, TWO), (NIL, TWO)), False),
                (2, EVEN, ((NIL, TWO), (NIL, ONE), (NIL, ONE)), False), (2, EVEN, ((NIL, TWO),), False),
                (2, EVEN, ((NIL, TWO, NIL), (NIL, ONE, NIL)), False), (2, EVEN, ((NIL,), (NIL, ONE)), False),
                (2, EVEN, EVEN, False), (2, EVEN, [(NIL, TWO), (NIL, ONE)], False), (3, EVEN, CHAIN[:2], False),
                (2, EVEN, ((NIL, TWO), [NIL, ONE]), False), (2, EVEN, ((NIL, (2, 2)), (NIL, ONE)), False),
                (2, EVEN, ((NIL, TWO), (NIL, (1, True))), False), (2, FREE, ((ONE, TWO), (ONE, ONE)), True),
                (3, FREE, ((ONE, TWO, NIL), (ONE, ONE, NIL)), True), (1, ((),), ((HALF,),), True),
                (3, CHAIN, CHAIN, True), (3, CHAIN, CHAIN[::-1], False), (2, ((), ()), ((ONE, TWO), (ONE, TWO)), True)):
            self.assertIs(is_filling(size, stairs, value), so, (size, stairs, value))

    def test_any_value_as_a_filling(self):
        for value in NO_TABLES + ANYTHING:
            for size, stairs in ((3, STEPS), (1, ((),)), (6, ((),) * 6)):
                self.assertIs(is_filling(size, stairs, value), False)

    def test_one_number_unlike(self):
        stream = Stream(327)
        for _ in range(30):
            stairs = drawn_stairs(stream, 4, 5)
            filling = least_filling(5, stairs)
            for i in range(4):
                for j in range(5):
                    other = [list(row) for row in filling]
                    other[i][j] = (other[i][j][0] + other[i][j][1], other[i][j][1])
                    other = tuple(tuple(row) for row in other)
                    self.assertIs(is_filling(5, stairs, other), j >= len(stairs[i]))


class Errors(unittest.TestCase):
    def test_errors_in_their_order(self):
        with self.assertRaises(InvalidNumber) as caught:
            filling_of_rank(7, None, None)
        self.assertEqual(caught.exception.given, 7)
        with self.assertRaises(InvalidStairs) as caught:
            filling_of_rank(1, STEPS, None)
        self.assertEqual(caught.exception.index, 1)
        for rank in (7, -1, True, None, (1,), HUGE):
            for size, stairs in ((2, STEPS), (1, ((),))):
                with self.assertRaises(InvalidNumber) as caught:
                    filling_of_rank(size, stairs, rank)
                self.assertIs(caught.exception.given, rank)

    def test_stairs_of_too_many_columns(self):
        for size in range(1, 7):
            for count in range(8):
                stairs = ((), (ONE,) * min(count, 1), (ONE,) * count)
                for function in (least_rank, greatest_rank, least_filling, greatest_filling, has_one_least):
                    if count <= size:
                        function(size, stairs)
                    else:
                        with self.assertRaises(InvalidStairs) as caught:
                            function(size, stairs)
                        self.assertEqual(caught.exception.index, 2)

    def test_any_value_is_no_size(self):
        for value in ANYTHING:
            if not (type(value) is int and 1 <= value <= 6):
                for function in (is_stairs, least_rank, greatest_rank, has_one_least):
                    with self.assertRaises(InvalidNumber) as caught:
                        function(value, value)
                    self.assertIs(caught.exception.given, value)


if __name__ == "__main__":
    unittest.main()
