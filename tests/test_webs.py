"""Webs, ways and inverses that are 0 wherever no tie is (point 22)."""

import unittest
from fractions import Fraction
from itertools import combinations

from cornerranks.errors import InvalidNumber, InvalidSquare, InvalidWeb, NotRegular
from cornerranks.inverses import inverse
from cornerranks.webs import has_web_inverse, is_web, way, web_break
from samples import (
    CHAIN, FLAT, HILL, LESS, NIL, ONE, STILL, TWO, Stream, beside, broken, chosen, is_plain, lots, numbers_of,
    rank_by_rows, regular_squares, sample_squares, small, sparse_squares, table_from, unit)
from wrongs import ANYTHING, HUGE, NO_WEBS, PATH, STAR


def ties_of(many):
    """All pairs that may be ties, ascending."""
    return [(i, j) for i in range(many) for j in range(i + 1, many)]


def first_needless(ties, many):
    """The index of the first tie whose places are tied by those ahead of it; None."""
    for at, (first, second) in enumerate(ties):
        if second in reached(ties[:at], first):
            return at
    return None


def reached(ties, first):
    """All places that are tied together with one."""
    found = {first}
    for _ in range(7):
        found |= {place for tie in ties if set(tie) & found for place in tie}
    return found


def webs_of(many):
    return [ties for ties in combinations(ties_of(many), many - 1) if first_needless(ties, many) is None]


def drawn_webs(stream, many, count):
    """Some webs of so many places, other ones than just paths and stars."""
    found = []
    for _ in range(count):
        order = list(range(many))
        for at in range(many):
            order.insert(stream.below(many), order.pop(at))
        pairs = [sorted((order[at], order[stream.below(at)])) for at in range(1, many)]
        found.append(tuple(sorted((i, j) for i, j in pairs)))
    return found


def ways_by_search(web, first):
    """All ways from a place, by going on until all are reached."""
    found = {first: (first,)}
    for _ in range(7):
        for i, j in web:
            for a, b in ((i, j), (j, i)):
                if a in found and b not in found:
                    found[b] = found[a] + (b,)
    return found


def with_web_inverse(stream, web, draw=small):
    """A table whose inverse is 0 at all places that are not tied."""
    many = len(web) + 1
    while True:
        rows = [[Fraction(draw(stream)) if i == j or tuple(sorted((i, j))) in web else Fraction(0)
                 for j in range(many)] for i in range(many)]
        if rank_by_rows(rows) == many:
            return inverse(table_from(rows))


def is_so(table, web):
    """Whether the inverse is 0 at all unlike places that are not tied, seen in the inverse."""
    rows = numbers_of(inverse(table))
    return not any(number for i, row in enumerate(rows) for j, number in enumerate(row)
                   if i != j and tuple(sorted((i, j))) not in web)


def is_parted(web, place, rows, columns):
    """Whether a place parts two lots, word by word."""
    many = len(web) + 1
    if not rows or not columns or len(rows) + len(columns) != many - 1:
        return False
    if set(rows) | set(columns) | {place} != set(range(many)):
        return False
    return not any((i in rows and j in columns) or (j in rows and i in columns) for i, j in web)


def rank_around(table, place, rows, columns):
    return rank_by_rows(chosen(numbers_of(table), sorted((place,) + rows), sorted((place,) + columns)))


class Webs(unittest.TestCase):
    def test_all_rows_of_ties(self):
        for many in range(1, 7):
            count = 0
            for ties in combinations(ties_of(many), many - 1):
                wrong = first_needless(ties, many)
                self.assertIs(is_web(many, ties), wrong is None)
                count += wrong is None
                if many < 6:
                    self.told(many, ties, wrong)
            # As many as there are trees (Cayley).
            self.assertEqual(count, many ** (many - 2) if many > 1 else 1)

    def told(self, many, ties, wrong):
        if wrong is None:
            self.assertEqual(way(many, ties, 0, 0), (0,))
        else:
            with self.assertRaises(InvalidWeb) as caught:
                way(many, ties, 0, 0)
            self.assertEqual(caught.exception.index, wrong)

    def test_the_order_of_ties(self):
        for many in range(3, 6):
            for web in webs_of(many):
                for at in range(1, many - 1):
                    turned = web[:at - 1] + (web[at], web[at - 1]) + web[at + 1:]
                    self.assertIs(is_web(many, turned), False)
                    self.told(many, turned, at)
                for at in range(many - 1):
                    turned = web[:at] + (web[at][::-1],) + web[at + 1:]
                    self.assertIs(is_web(many, turned), False)
                    self.told(many, turned, at)

    def test_the_first_of_several_wrong_ones(self):
        for ties, told in (
                (((0, 1), (0, 2), (1, 2)), 2), (((0, 1), (1, 0), None), 1), (((0, 1), (0, 1), (0, 9)), 1),
                (((0, 3), (0, 2), (1, 2)), 1), (((0, 1), (0, 2), (0, 4)), 2), ((None, (0, 2), (0, 4)), 0),
                (((2, 3), (0, 1), (1, 2)), 1), (((0, 1), (0, 2), (1, 1)), 2)):
            self.told(4, ties, told)
            self.assertIs(is_web(4, ties), False)

    def test_other_numbers_of_places(self):
        for many in range(1, 7):
            path = tuple((k, k + 1) for k in range(many - 1))
            for size in range(1, 7):
                self.assertIs(is_web(size, path), size == many)
                if size != many:
                    with self.assertRaises(InvalidWeb) as caught:
                        way(size, path, 0, 0)
                    self.assertIsNone(caught.exception.index)

    def test_any_value(self):
        for value, _ in NO_WEBS:
            self.assertIs(is_web(3, value), False)
        for size in range(1, 7):
            for value in ANYTHING:
                self.assertIs(is_web(size, value), False)

    def test_one_place(self):
        self.assertIs(is_web(1, ()), True)
        for value in ([], None, ((),), ((0, 0),), ((0, 1),), {}, "", 0, False):
            self.assertIs(is_web(1, value), False)


class Ways(unittest.TestCase):
    def test_all_webs_of_up_to_five_places(self):
        for many in range(1, 6):
            for web in webs_of(many):
                self.check(many, web)

    def test_webs_of_six_places(self):
        stream = Stream(301)
        for web in drawn_webs(stream, 6, 60) + [tuple((0, k) for k in range(1, 6)), tuple((k, 5) for k in range(5))]:
            self.check(6, web)

    def check(self, many, web):
        for first in range(many):
            found = ways_by_search(web, first)
            self.assertEqual(len(found), many)
            for second in range(many):
                told = way(many, web, first, second)
                self.assertEqual(told, found[second])
                self.assertTrue(is_plain(told))
                self.assertEqual(way(many, web, second, first), told[::-1])

    def test_errors_in_their_order(self):
        for values, name, told in (
                ((0, None, 9, 9), InvalidNumber, 0), ((True, PATH, 0, 0), InvalidNumber, True),
                ((3, PATH, 3, None), InvalidNumber, 3), ((3, PATH, 0, 3), InvalidNumber, 3),
                ((3, PATH, -1, 0), InvalidNumber, -1), ((3, PATH, 0, -1), InvalidNumber, -1),
                ((3, PATH, True, 0), InvalidNumber, True), ((3, PATH, 0, False), InvalidNumber, False),
                ((1, (), 1, 0), InvalidNumber, 1), ((6, PATH, 9, 9), InvalidWeb, None)):
            with self.assertRaises(name) as caught:
                way(*values)
            self.assertIs(caught.exception.given if name is InvalidNumber else caught.exception.index, told)


class Inverses(unittest.TestCase):
    def check(self, table, web):
        so = is_so(table, web)
        self.assertIs(has_web_inverse(table, web), so)
        told = web_break(table, web)
        if so:
            self.assertIsNone(told)
            return True
        self.assertTrue(is_plain(told))
        place, rows, columns = told
        self.assertEqual((list(rows), list(columns)), (sorted(rows), sorted(columns)))
        self.assertTrue(is_parted(web, place, rows, columns))
        self.assertGreater(rank_around(table, place, rows, columns), 1)
        return False

    def test_inverses_along_webs(self):
        stream = Stream(302)
        for many in range(1, 7):
            for web in webs_of(many) if many < 5 else drawn_webs(stream, many, 12):
                for draw in (small, broken):
                    table = with_web_inverse(stream, web, draw)
                    self.assertTrue(self.check(table, web))
                    rows = numbers_of(table)
                    for i in range(many):
                        for j in range(many):
                            for k in way(many, web, i, j):
                                self.assertEqual(rows[i][j] * rows[k][k], rows[i][k] * rows[k][j])

    def test_inverses_along_other_webs(self):
        stream = Stream(303)
        found = [0, 0]
        for many in range(3, 7):
            for web in drawn_webs(stream, many, 15):
                table = with_web_inverse(stream, web)
                for other in drawn_webs(stream, many, 6):
                    found[self.check(table, other)] += 1
        self.assertGreater(min(found), 20)

    def test_one_number_that_is_not_tied(self):
        stream = Stream(304)
        for many in range(3, 7):
            for web in webs_of(many) if many < 5 else drawn_webs(stream, many, 4):
                for i in range(many):
                    for j in range(many):
                        if i != j and tuple(sorted((i, j))) not in web:
                            rows = [[int(k == m) + 5 * int((k, m) == (i, j)) for m in range(many)]
                                    for k in range(many)]
                            self.assertFalse(self.check(inverse(table_from(rows)), web))

    def test_drawn_tables(self):
        stream = Stream(305)
        for table in regular_squares(306) + sparse_squares(307, each=12):
            for web in drawn_webs(stream, len(table), 4):
                self.check(table, web)

    def test_the_break_is_one_of_all(self):
        # A triple breaks the web exactly if the inverse is not 0 on its lots.
        stream = Stream(308)
        for many in range(1, 6):
            for table in (table for table in sparse_squares(309, each=4) if len(table) == many):
                web, other = drawn_webs(stream, many, 1)[0], numbers_of(inverse(table))
                some = False
                for place in range(many):
                    for rows in lots(many):
                        columns = beside(rows + (place,), many)
                        if is_parted(web, place, rows, columns):
                            breaks = any(other[i][j] for i in rows for j in columns)
                            self.assertEqual(rank_around(table, place, rows, columns) > 1, breaks)
                            some = some or breaks
                self.assertIs(has_web_inverse(table, web), not some)

    def test_one_and_two_places(self):
        for number in (ONE, (-3, 7), (HUGE, 2)):
            self.assertIs(has_web_inverse(((number,),), ()), True)
            self.assertIsNone(web_break(((number,),), ()))
        for table in (((ONE, TWO), (LESS, ONE)), unit(2), ((NIL, ONE), (TWO, NIL))):
            self.assertIs(has_web_inverse(table, ((0, 1),)), True)
            self.assertIsNone(web_break(table, ((0, 1),)))

    def test_only_one_side_of_the_middle_is_not_enough(self):
        table = inverse(table_from([[1, 0, 0], [0, 1, 0], [1, 0, 1]]))
        for web, so in ((PATH, False), (STAR, True), (((0, 2), (1, 2)), True)):
            self.assertIs(has_web_inverse(table, web), so)
            self.assertIs(has_web_inverse(tuple(zip(*table)), web), so)

    def test_long_numbers(self):
        table = inverse(table_from([[HUGE, 1, 0], [Fraction(1, HUGE), 3, HUGE], [0, -HUGE, Fraction(5, 7)]]))
        self.assertTrue(self.check(table, PATH))
        self.assertFalse(self.check(table, STAR))

    def test_singular_tables_behind_all_else(self):
        stream = Stream(310)
        for table, rank in sample_squares(311):
            if rank < len(table):
                for function in (has_web_inverse, web_break):
                    with self.assertRaises(NotRegular):
                        function(table, drawn_webs(stream, len(table), 1)[0])
                    with self.assertRaises(InvalidWeb):
                        function(table, None)

    def test_errors(self):
        for function in (has_web_inverse, web_break):
            for wrong in (None, FLAT[:1], STILL, [CHAIN]):
                with self.assertRaises(InvalidSquare) as caught:
                    function(wrong, None)
                self.assertIs(caught.exception.given, wrong)
            for value, index in NO_WEBS:
                with self.assertRaises(InvalidWeb) as caught:
                    function(HILL, value)
                self.assertEqual(caught.exception.index, index)


if __name__ == "__main__":
    unittest.main()
