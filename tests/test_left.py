"""What is left, a column times a row more, and stairs pairs (points 9, 11 and 12)."""

import unittest
from fractions import Fraction
from itertools import combinations

from cornerranks.corners import high_ranks, low_ranks
from cornerranks.errors import InvalidLot, NotRegular
from cornerranks.inverses import determinant, inverse, is_regular
from cornerranks.left import left_of, raised, stairs_pair
from cornerranks.tables import is_table, part, product, rank_of
from samples import (
    CHAIN, FLAT, HALF, LESS, LONG, NIL, ONE, TALL, TWO, Stream, beside, broken, chosen, drawn_row, huge, is_plain,
    low_ranks_of, high_ranks_of, lots, numbers_of, rank_by_rows, regular_squares, rows_of_rank, sample_squares,
    sample_tables, small, sparse_squares, stepwise, table_from, times, unit, upper_rows, with_low_ranks)


def left_by_words(table, rows, columns):
    """Point 11 word by word: A[I', J'] less A[I', J] times the inverse of A[I, J] times A[I, J']."""
    down, across = beside(rows, len(table)), beside(columns, len(table[0]))
    numbers = numbers_of(table)
    if not rows:
        return table
    middle = numbers_of(inverse(part(table, rows, columns)))
    taken = times(times(chosen(numbers, down, columns), middle), chosen(numbers, rows, across))
    kept = chosen(numbers, down, across)
    return table_from([[a - b for a, b in zip(row, less)] for row, less in zip(kept, taken)])


def pairs_of_lots(many, wide):
    """All pairs of lots of as many rows and columns that leave some of both."""
    for count in range(min(many, wide)):
        for rows in combinations(range(many), count):
            for columns in combinations(range(wide), count):
                yield rows, columns


def some(stream, found, most):
    """Up to so many of a list, drawn."""
    found = list(found)
    return found if len(found) <= most else [found[stream.below(len(found))] for _ in range(most)]


def is_part_regular(table, rows, columns):
    return not rows or is_regular(part(table, rows, columns))


class Left(unittest.TestCase):
    def check(self, table, rows, columns):
        if not is_part_regular(table, rows, columns):
            with self.assertRaises(NotRegular):
                left_of(table, rows, columns)
            return False
        told = left_of(table, rows, columns)
        self.assertTrue(is_table(told) and is_plain(told))
        self.assertEqual(told, left_by_words(table, rows, columns))
        self.assertEqual(rank_of(told), rank_of(table) - len(rows))
        return True

    def test_tables_of_all_shapes(self):
        stream = Stream(61)
        regular = singular = 0
        for table, _ in sample_tables(seed=62):
            for rows, columns in some(stream, pairs_of_lots(len(table), len(table[0])), 12):
                if self.check(table, rows, columns):
                    regular += 1
                else:
                    singular += 1
        self.assertGreater(regular, 300)
        self.assertGreater(singular, 300)

    def test_all_lots_of_up_to_four_rows(self):
        for table in sparse_squares(seed=63, most=4, each=3) + [CHAIN, FLAT, LONG, TALL]:
            for rows, columns in pairs_of_lots(len(table), len(table[0])):
                self.check(table, rows, columns)

    def test_of_no_lots_it_is_the_table(self):
        for table, _ in sample_tables(seed=64):
            self.assertEqual(left_of(table, (), ()), table)

    def test_left_of_what_is_left(self):
        stream = Stream(65)
        tried = 0
        for table in sparse_squares(seed=66) + regular_squares(seed=67):
            for rows, columns in some(stream, pairs_of_lots(len(table), len(table)), 8):
                if not is_part_regular(table, rows, columns):
                    continue
                once = left_of(table, rows, columns)
                down, across = beside(rows, len(table)), beside(columns, len(table))
                for more, wider in some(stream, pairs_of_lots(len(once), len(once)), 4):
                    if is_part_regular(once, more, wider):
                        both = tuple(sorted(rows + tuple(down[k] for k in more)))
                        others = tuple(sorted(columns + tuple(across[k] for k in wider)))
                        self.assertEqual(left_of(once, more, wider), left_of(table, both, others))
                        tried += 1
        self.assertGreater(tried, 100)

    def test_inverse_of_what_is_left(self):
        stream = Stream(68)
        for table in sparse_squares(seed=69) + regular_squares(seed=70):
            many, other = len(table), inverse(table)
            for rows, columns in some(stream, pairs_of_lots(many, many), 10):
                if is_part_regular(table, rows, columns):
                    told = left_of(table, rows, columns)
                    self.assertIs(is_regular(told), True)
                    self.assertEqual(inverse(told), part(other, beside(columns, many), beside(rows, many)))

    def test_determinant_for_like_lots(self):
        for table, _ in sample_squares(seed=71, most=5):
            for lot in lots(len(table))[:-1]:
                if is_part_regular(table, lot, lot):
                    inner = Fraction(*determinant(part(table, lot, lot))) if lot else 1
                    expected = Fraction(*determinant(table)) / inner
                    self.assertEqual(Fraction(*determinant(left_of(table, lot, lot))), expected)

    def test_corner_ranks_for_the_first_places(self):
        stream = Stream(72)
        tables = sparse_squares(seed=73, each=12)
        tables += [with_low_ranks(stream, lows) for count in range(1, 6) for lows in stepwise(count)]
        tried = 0
        for table in tables:
            for k in range(1, len(table)):
                first = tuple(range(k))
                if is_part_regular(table, first, first):
                    told = left_of(table, first, first)
                    for ranks in (low_ranks, high_ranks):
                        bounds = ranks(table)[k:]
                        self.assertEqual(len(ranks(told)), len(bounds))
                        self.assertTrue(all(a <= b for a, b in zip(ranks(told), bounds)))
                    tried += 1
        self.assertGreater(tried, 200)

    def test_long_numbers(self):
        stream = Stream(74)
        table = table_from([[Fraction(stream.long(90), stream.long(60) + 1) for _ in range(4)] for _ in range(3)])
        for rows, columns in pairs_of_lots(3, 4):
            self.assertTrue(self.check(table, rows, columns))


class LeftErrors(unittest.TestCase):
    def given(self, value, *values):
        with self.assertRaises(InvalidLot) as caught:
            left_of(*values)
        self.assertIs(caught.exception.given, value)

    def test_all_rows(self):
        for table, _ in sample_tables(seed=75):
            rows = tuple(range(len(table)))
            for columns in ((), (0,), rows, tuple(range(len(table[0]))), None, (9,)):
                self.given(rows, table, rows, columns)

    def test_all_columns(self):
        for table, _ in sample_tables(seed=76):
            columns = tuple(range(len(table[0])))
            for rows in lots(len(table))[:-1]:
                self.given(columns, table, rows, columns)

    def test_unlike_numbers(self):
        for table in (CHAIN, table_from([[1, 2, 3, 4], [0, 1, 0, 0], [0, 0, 1, 5]])):
            for rows in lots(len(table))[:-1]:
                for columns in lots(len(table[0]))[:-1]:
                    if len(rows) != len(columns):
                        self.given(columns, table, rows, columns)

    def test_not_regular_is_last(self):
        noughts = ((NIL,) * 3,) * 3
        self.given((0, 1, 2), noughts, (0, 1, 2), (0, 1))
        self.given((3,), noughts, (0,), (3,))
        self.given((0, 1), noughts, (0,), (0, 1))
        for rows, columns in pairs_of_lots(3, 3):
            if rows:
                with self.assertRaises(NotRegular):
                    left_of(noughts, rows, columns)
        self.assertEqual(left_of(noughts, (), ()), noughts)


class Raised(unittest.TestCase):
    def test_raised(self):
        stream = Stream(77)
        for table, _ in sample_tables(seed=78):
            down, across = drawn_row(stream, len(table)), drawn_row(stream, len(table[0]))
            told = raised(table, down, across)
            self.assertTrue(is_table(told) and is_plain(told))
            expected = [[Fraction(*number) + Fraction(*a) * Fraction(*b) for number, b in zip(row, across)]
                        for row, a in zip(table, down)]
            self.assertEqual(told, table_from(expected))
            self.assertLessEqual(abs(rank_of(told) - rank_of(table)), 1)

    def test_back_again(self):
        stream = Stream(79)
        for table, _ in sample_tables(seed=80):
            down, across = drawn_row(stream, len(table)), drawn_row(stream, len(table[0]))
            back = tuple((-top, bottom) for top, bottom in down)
            self.assertEqual(raised(raised(table, down, across), back, across), table)
            self.assertEqual(raised(table, (NIL,) * len(table), across), table)
            self.assertEqual(raised(table, down, (NIL,) * len(table[0])), table)

    def test_no_corner_rank_moves_by_more_than_1(self):
        stream = Stream(81)
        moved = set()
        tables = [table for table, _ in sample_squares(seed=82)] + sparse_squares(seed=83, each=12)
        tables += [with_low_ranks(stream, lows) for count in range(1, 6) for lows in stepwise(count)]
        for table in tables:
            many = len(table)
            for draw in (small, broken):
                down = table_from([[draw(stream) * stream.below(2) for _ in range(many)]])[0]
                across = table_from([[draw(stream) * stream.below(2) for _ in range(many)]])[0]
                told = raised(table, down, across)
                for ranks in (low_ranks, high_ranks):
                    steps = [a - b for a, b in zip(ranks(told), ranks(table))]
                    moved.update(steps)
                    self.assertTrue(all(-1 <= step <= 1 for step in steps), (table, down, across))
        self.assertEqual(moved, {-1, 0, 1})


class StairsPairs(unittest.TestCase):
    def check(self, table):
        many, numbers = len(table), numbers_of(table)
        so = all(rank_by_rows([row[:k] for row in numbers[:k]]) == k for k in range(1, many + 1))
        told = stairs_pair(table)
        if not so:
            self.assertIsNone(told)
            return False
        self.assertTrue(type(told) is tuple and is_plain(told))
        left, right = told
        self.assertTrue(is_table(left) and is_table(right))
        self.assertEqual(product(left, right), table)
        for i in range(many):
            self.assertEqual(left[i][i:], (ONE,) + (NIL,) * (many - i - 1))
            self.assertEqual(right[i][:i], (NIL,) * i)
        self.assertEqual((len(left), len(right)), (many, many))
        self.assertEqual((low_ranks(left), high_ranks(left)), (low_ranks_of(numbers), (0,) * (many - 1)))
        self.assertEqual((low_ranks(right), high_ranks(right)), ((0,) * (many - 1), high_ranks_of(numbers)))
        return True

    def test_tables_of_all_ranks(self):
        found = {self.check(table) for table, _ in sample_squares(seed=84)}
        self.assertEqual(found, {True, False})

    def test_many_noughts(self):
        found = [self.check(table) for table in sparse_squares(seed=85, each=25)]
        self.assertGreater(sum(found), 30)
        self.assertLess(sum(found), len(found) - 30)

    def test_the_pair_that_made_it(self):
        stream = Stream(86)
        for many in range(1, 7):
            for _ in range(10):
                right = table_from(upper_rows(stream, many))
                rows = upper_rows(stream, many)
                left = table_from([[rows[j][i] if i > j else int(i == j) for j in range(many)] for i in range(many)])
                self.assertEqual(stairs_pair(product(left, right)), (left, right))

    def test_each_beginning_singular_in_turn(self):
        # With 0 at (k, k) of the right one just the beginnings of more than k rows are singular.
        stream = Stream(87)
        for many in range(1, 7):
            for place in range(many):
                right = upper_rows(stream, many)
                right[place][place] = Fraction(0)
                left = [list(row) for row in zip(*upper_rows(stream, many))]
                rows = times(left, right)
                self.assertIs(self.check(table_from(rows)), False)

    def test_just_one_beginning_singular(self):
        stream = Stream(88)
        for many in range(2, 7):
            for size in range(1, many):
                rows = times([list(row) for row in zip(*upper_rows(stream, many))], upper_rows(stream, many))
                # With this less in its last place this beginning is singular, those ahead of it stay as they are.
                whole = Fraction(*determinant(table_from([row[:size] for row in rows[:size]])))
                ahead = [row[:size - 1] for row in rows[:size - 1]]
                rows[size - 1][size - 1] -= whole / (Fraction(*determinant(table_from(ahead))) if ahead else 1)
                ranks = [rank_by_rows([row[:k] for row in rows[:k]]) for k in range(1, many + 1)]
                self.assertEqual(ranks[:size], list(range(1, size)) + [size - 1])
                self.assertIs(self.check(table_from(rows)), False)

    def test_only_the_whole_table_singular(self):
        stream = Stream(89)
        for many in range(1, 7):
            left, right = [list(row) for row in zip(*upper_rows(stream, many))], upper_rows(stream, many)
            right[-1][-1] = Fraction(0)
            table = table_from(times(left, right))
            self.assertIs(is_regular(table), False)
            for k in range(1, many):
                self.assertIs(is_regular(part(table, tuple(range(k)), tuple(range(k)))), True)
            self.assertIsNone(stairs_pair(table))

    def test_regular_tables_that_begin_with_0(self):
        for many in range(2, 7):
            rows = [[int(i + j == many - 1) for j in range(many)] for i in range(many)]
            self.assertIsNone(stairs_pair(table_from(rows)))
        self.assertIsNone(stairs_pair(((NIL, ONE), (ONE, TWO))))
        self.assertIsNone(stairs_pair(((NIL,),)))
        self.assertEqual(stairs_pair(((LESS,),)), (((ONE,),), ((LESS,),)))
        self.assertEqual(stairs_pair(((TWO, ONE), (ONE, ONE))), (((ONE, NIL), (HALF, ONE)), ((TWO, ONE), (NIL, HALF))))

    def test_long_numbers(self):
        stream = Stream(90)
        self.assertTrue(self.check(table_from(rows_of_rank(stream, huge, 4, 4, 4))))

    def test_of_all_low_ranks(self):
        stream = Stream(91)
        found = [self.check(with_low_ranks(stream, lows)) for count in range(6) for lows in stepwise(count)]
        self.assertGreater(sum(found), 30)
        self.assertEqual(stairs_pair(unit(6)), (unit(6), unit(6)))


if __name__ == "__main__":
    unittest.main()
