"""Corner ranks (points 9 and 10)."""

import unittest
from itertools import product as all_of

from cornerranks.corners import are_ranks, high_ranks, low_ranks, table_with
from cornerranks.inverses import inverse, is_regular
from cornerranks.tables import is_table, product, turned_over
from samples import (
    FLAT, LESS, NIL, ONE, TWO, Stream, is_plain, numbers_of, rank_by_rows, sample_squares, sparse_squares, table_from,
    times)


def lows_of(table):
    rows = numbers_of(table)
    return tuple(rank_by_rows([row[:k] for row in rows[k:]]) for k in range(1, len(rows)))


def highs_of(table):
    rows = numbers_of(table)
    return tuple(rank_by_rows([row[k:] for row in rows[:k]]) for k in range(1, len(rows)))


def are_steps(ranks):
    """The condition of point 10 on one row of numbers, word by word."""
    if not ranks:
        return True
    near = all(abs(a - b) <= 1 for a, b in zip(ranks, ranks[1:]))
    return ranks[0] <= 1 and ranks[-1] <= 1 and near


def sums(row, other):
    return [a + b for a, b in zip(row, other)]


def added(table, other):
    rows = zip(numbers_of(table), numbers_of(other))
    return table_from([[a + b for a, b in zip(row, more)] for row, more in rows])


def few_numbers(stream, many):
    """A square table with many noughts, regular or not."""
    return table_from([[(stream.below(3) - 1) * stream.below(2) for _ in range(many)] for _ in range(many)])


class Ranks(unittest.TestCase):
    def up_to(self, ranks, bounds):
        self.assertEqual(len(ranks), len(bounds))
        self.assertTrue(all(rank <= bound for rank, bound in zip(ranks, bounds)), (ranks, bounds))

    def test_one_row(self):
        for number in (NIL, ONE, (-2, 3)):
            self.assertEqual(low_ranks(((number,),)), ())
            self.assertEqual(high_ranks(((number,),)), ())

    def test_two_rows(self):
        self.assertEqual([low_ranks(((ONE, NIL), (TWO, ONE))), high_ranks(((ONE, NIL), (TWO, ONE)))], [(1,), (0,)])
        self.assertEqual([low_ranks(FLAT), high_ranks(FLAT)], [(1,), (1,)])

    def test_regular_and_singular(self):
        for table, _ in sample_squares(seed=51):
            self.assertEqual(low_ranks(table), lows_of(table))
            self.assertEqual(high_ranks(table), highs_of(table))
            self.assertTrue(is_plain(low_ranks(table)) and is_plain(high_ranks(table)))

    def test_tables_of_noughts_and_ones(self):
        stream = Stream(52)
        for many in range(2, 7):
            for _ in range(40):
                table = few_numbers(stream, many)
                self.assertEqual(low_ranks(table), lows_of(table))
                self.assertEqual(high_ranks(table), highs_of(table))

    def test_the_middle_does_not_count(self):
        table = table_from([[9 if i == j else 0 for j in range(6)] for i in range(6)])
        self.assertEqual([low_ranks(table), high_ranks(table)], [(0,) * 5, (0,) * 5])

    def test_one_number(self):
        for i in range(6):
            for j in range(6):
                table = table_from([[int((k, m) == (i, j)) for m in range(6)] for k in range(6)])
                self.assertEqual(low_ranks(table), tuple(int(j < k <= i) for k in range(1, 6)))
                self.assertEqual(high_ranks(table), tuple(int(i < k <= j) for k in range(1, 6)))

    def test_turned_over(self):
        for table, _ in sample_squares(seed=53):
            self.assertEqual(low_ranks(turned_over(table)), high_ranks(table))
            self.assertEqual(high_ranks(turned_over(table)), low_ranks(table))

    def test_inverse(self):
        for table in sparse_squares(seed=54, each=15):
            self.assertEqual(low_ranks(inverse(table)), low_ranks(table))
            self.assertEqual(high_ranks(inverse(table)), high_ranks(table))

    def test_sums_and_products(self):
        stream = Stream(55)
        for many in range(1, 7):
            for _ in range(25):
                table, other = few_numbers(stream, many), few_numbers(stream, many)
                for made in (added(table, other), product(table, other)):
                    self.up_to(low_ranks(made), sums(low_ranks(table), low_ranks(other)))
                    self.up_to(high_ranks(made), sums(high_ranks(table), high_ranks(other)))

    def test_a_column_times_a_row_more(self):
        stream = Stream(56)
        for many in range(1, 7):
            for _ in range(25):
                table = few_numbers(stream, many)
                column = [[stream.below(5) - 2] for _ in range(many)]
                row = [[stream.below(5) - 2 for _ in range(many)]]
                made = added(table, table_from(times(column, row)))
                for ranks in (low_ranks, high_ranks):
                    self.assertTrue(all(abs(a - b) <= 1 for a, b in zip(ranks(made), ranks(table))))

    def test_ranks_of_each_table_are_ranks(self):
        for table, _ in sample_squares(seed=57):
            self.assertIs(are_ranks(low_ranks(table), high_ranks(table)), True)


class SomeTables(unittest.TestCase):
    def check(self, lows, highs):
        so = are_steps(lows) and are_steps(highs)
        self.assertIs(are_ranks(lows, highs), so)
        told = table_with(lows, highs)
        if not so:
            self.assertIsNone(told)
            return
        self.assertTrue(is_table(told) and is_plain(told))
        self.assertEqual((len(told), len(told[0])), (len(lows) + 1, len(lows) + 1))
        self.assertIs(is_regular(told), True)
        self.assertEqual((low_ranks(told), high_ranks(told)), (lows, highs))

    def test_no_numbers(self):
        self.check((), ())

    def test_up_to_four_numbers(self):
        for count in range(5):
            rows = list(all_of(range(4), repeat=count))
            for lows in rows:
                for highs in rows:
                    self.check(lows, highs)

    def test_five_numbers(self):
        rows = list(all_of(range(4), repeat=5))
        steps = [row for row in rows if are_steps(row)]
        self.assertEqual(len(steps), 51)
        for lows in steps:
            for highs in steps:
                self.check(lows, highs)
        for row in rows:
            for other in ((0, 0, 0, 0, 0), (1, 2, 3, 2, 1), (1, 1, 2, 1, 0), (0, 2, 0, 0, 0)):
                self.check(row, other)
                self.check(other, row)

    def test_greater_numbers(self):
        for row in all_of((0, 1, 3, 4, 5, 6), repeat=3):
            self.check(row, (1, 2, 1))
            self.check((0, 1, 1), row)
        for row in ((1, 2, 3, 4, 5), (6, 5, 4, 3, 2), (6, 6, 6, 6, 6), (0, 0, 6, 0, 0), (1, 2, 3, 2, 2)):
            self.check(row, (0, 0, 0, 0, 0))
            self.check((1, 1, 1, 1, 1), row)

    def test_just_the_ranks_of_all_tables_of_noughts_and_ones(self):
        for many in (1, 2, 3):
            found = set()
            for numbers in all_of((0, 1), repeat=many * many):
                table = table_from([numbers[many * i:many * i + many] for i in range(many)])
                found.add((low_ranks(table), high_ranks(table)))
            rows = list(all_of(range(4), repeat=many - 1))
            self.assertEqual(found, {(lows, highs) for lows in rows for highs in rows if are_ranks(lows, highs)})

    def test_just_the_low_ranks_of_four_rows(self):
        found = set()
        for a, b, c, d, e, f in all_of((0, 1), repeat=6):
            found.add(low_ranks(table_from([[0, 0, 0, 0], [a, 0, 0, 0], [b, c, 0, 0], [d, e, f, 0]])))
        rows = all_of(range(4), repeat=3)
        self.assertEqual(found, {row for row in rows if are_ranks(row, (0, 0, 0))})

    def test_negative_and_broken_tables_have_ranks_too(self):
        table = ((ONE, (1, 2), (1, 3)), (LESS, TWO, (2, 3)), ((-1, 2), (3, 7), ONE))
        self.assertEqual((low_ranks(table), high_ranks(table)), ((1, 1), (1, 1)))
        self.assertIs(are_ranks((1, 1), (1, 1)), True)


if __name__ == "__main__":
    unittest.main()
