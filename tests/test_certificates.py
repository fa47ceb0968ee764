"""Certificates: of two claims that exclude one another the one that is so, with its paper (points 2 and 27)."""

import unittest

from cornerranks import certificates, errors
from cornerranks.carriers import carrier_with
from cornerranks.checker import accepts
from cornerranks.inverses import inverse
from claims import WORDS, certified, claim_so, drawn_calls, others_of, plain_calls, shown
from samples import CHAIN, DOWN, FLAT, HILL, LESS, LONG, NIL, ONE, STILL, TWO, Stream, drawn_stairs, huge, is_plain
from test_fillings import EVEN
from wrongs import FUNCTIONS, HUGE, PATH, SINGULAR, STEPS, TELLING

KINDS = {word for words in TELLING.values() for word in words}


class Case(unittest.TestCase):
    def check(self, name, values):
        told = getattr(certificates, name)(*values)
        self.assertEqual((type(told), len(told)), (tuple, 2))
        claim, paper = told
        self.assertIs(type(claim), tuple)
        self.assertIn(claim[0], TELLING[name])
        self.assertTrue(is_plain(claim[1:]) and is_plain(paper))
        self.parts_are_as_passed(claim, values)
        self.assertIs(accepts(claim, paper), True, (claim, paper))
        self.assertIs(claim_so(claim), True, claim)
        for other in others_of(claim):
            self.assertIs(claim_so(other), False, other)
            self.assertIs(accepts(other, paper), False, (other, paper))
        if claim[0] not in ("no table", "least", "no half pair", "web"):
            self.assertTrue(shown(claim, paper), (claim, paper))
        else:
            self.assertEqual(paper, ())
        return claim

    def parts_are_as_passed(self, claim, values):
        told = claim[1:]
        self.assertEqual(len(told), len(values))
        for place, value in enumerate(values):
            if claim[0] in ("rank from", "fillings from") and place == len(values) - 1:
                self.assertEqual(told[place], value + 1)
            elif claim[0] == "fillings up to" and place == len(values) - 1:
                self.assertEqual(told[place], value - 1)
            else:
                self.assertIs(told[place], value)


class Certificates(Case):
    def test_by_hand(self):
        found = {self.check(name, values)[0] for name, values in plain_calls()}
        self.assertEqual(found, set(WORDS))
        self.assertEqual(found, KINDS)

    def test_drawn(self):
        found = {}
        for name, values in drawn_calls(361):
            word = self.check(name, values)[0]
            found[word] = found.get(word, 0) + 1
        self.assertEqual(set(found), set(WORDS))
        self.assertGreater(min(found.values()), 4, found)

    def test_six_rows(self):
        found = {}
        for name, values in drawn_calls(362, 6):
            if len(values[0] if isinstance(values[0], tuple) else values[1]) == 6:
                word = self.check(name, values)[0]
                found[word] = found.get(word, 0) + 1
        self.assertGreater(len(found), 15, found)

    def test_long_numbers(self):
        great = (((HUGE, 2), (1, HUGE), ONE), (LESS, (HUGE, 3), TWO), ((-HUGE, 5), (2, HUGE), (5, HUGE)))
        back = inverse(great)
        for name, values in (
                ("certify_rank", (back, (0, 1, 2), (0, 1), 1)), ("certify_rank", (back, (0, 1, 2), (0, 1), 2)),
                ("certify_regular", (back,)), ("certify_sizes", (back, (1, 1))), ("certify_sizes", (back, (1, 0))),
                ("certify_least", (carrier_with(back, (2, 1)),)), ("certify_noughts", (back, (0, 2), (1,))),
                ("certify_half_pair", (back,)), ("certify_web", (back, PATH)),
                ("certify_bases", (carrier_with(back, (1, 1)), carrier_with(great, (1, 1)))),
                ("certify_filled", (4, (back[0][:1], back[1][:2], back[2]), 2)),
                ("certify_filled", (4, back, 2)), ("certify_filled", (4, back, 4))):
            self.check(name, values)
        stairs = drawn_stairs(Stream(363), 5, 6, huge)
        for rank in range(7):
            self.check("certify_filled", (6, stairs, rank))


class Words(Case):
    def told(self, name, values, *expected):
        claim = self.check(name, values)
        self.assertEqual((claim[0], claim[-1]) if len(expected) == 2 else (claim[0],), expected)

    def test_ranks(self):
        for bound in range(7):
            for table, rank in ((CHAIN, 3), (FLAT, 1), (((NIL,),), 0)):
                whole = tuple(range(len(table)))
                if bound >= rank:
                    self.told("certify_rank", (table, whole, whole, bound), "rank up to", bound)
                else:
                    self.told("certify_rank", (table, whole, whole, bound), "rank from", bound + 1)

    def test_the_part_counts(self):
        self.told("certify_rank", (CHAIN, (0, 2), (1,), 0), "rank from", 1)
        self.told("certify_rank", (CHAIN, (2,), (0,), 0), "rank up to", 0)
        self.told("certify_rank", (CHAIN, (), (0, 1), 0), "rank up to", 0)
        claim, paper = certificates.certify_rank(CHAIN, (0, 1), (), 3)
        self.assertEqual(paper, (((NIL,) * 3,) * 2, ((),) * 3))
        self.assertIs(accepts(claim, paper), True)

    def test_fillings(self):
        for rank, word, told in ((0, "fillings from", 1), (1, "filled", 1), (2, "filled", 2), (3, "fillings up to", 2),
                                 (6, "fillings up to", 5)):
            self.told("certify_filled", (2, STEPS, rank), word, told)
        for rank, word, told in ((0, "fillings from", 1), (1, "filled", 1), (2, "fillings up to", 1)):
            self.told("certify_filled", (2, EVEN, rank), word, told)
        for rank in range(7):
            for table, least in ((CHAIN, 3), (FLAT, 1), (LONG, 1), (((NIL,) * 6,) * 6, 0)):
                word = "filled" if rank == least else "fillings from" if rank < least else "fillings up to"
                step = {"filled": 0, "fillings from": 1, "fillings up to": -1}[word]
                self.told("certify_filled", (len(table[0]), table, rank), word, rank + step)

    def test_papers_of_fillings_up_to(self):
        for size, stairs, rank, paper in (
                (2, ((), ()), 3, ()), (2, ((), (), ()), 3, ()), (5, ((), ()), 3, ()), (2, EVEN, 2, (0,)), (3, CHAIN, 4, ()),
                (2, FLAT, 2, (0,)), (2, ((NIL, NIL), (ONE, ONE)), 2, (0,)), (2, EVEN, 3, ())):
            claim, told = certificates.certify_filled(size, stairs, rank)
            self.assertEqual((claim[0], len(told)), ("fillings up to", len(paper)))
            self.assertIs(accepts(claim, told), True)
            self.assertIs(accepts(claim, paper), True)


class Errors(unittest.TestCase):
    def raised(self, error, name, *values):
        with self.assertRaises(errors.CornerError) as caught:
            getattr(certificates, name)(*values)
        self.assertIs(type(caught.exception), error)
        return caught.exception

    def test_last_errors(self):
        wide = carrier_with(CHAIN, (2, 2))
        self.raised(errors.NotRegular, "certify_noughts", SINGULAR, (), ())
        self.raised(errors.NotRegular, "certify_half_pair", SINGULAR)
        self.raised(errors.NotRegular, "certify_web", SINGULAR, PATH)
        self.raised(errors.InvalidWeb, "certify_web", SINGULAR, ((0, 1),))
        self.raised(errors.InvalidLot, "certify_noughts", SINGULAR, (), (3,))
        self.raised(errors.UnlikeSizes, "certify_bases", wide, STILL[:2])
        self.raised(errors.NotLeast, "certify_bases", wide, DOWN)
        self.raised(errors.NotLeast, "certify_bases", DOWN, wide)
        # Both carry unlike numbers, but one is not least.
        self.raised(errors.NotLeast, "certify_bases", STILL, wide)
        self.raised(errors.InvalidCarrier, "certify_bases", wide, None)

    def test_the_bound_is_told_last(self):
        for bound in (-1, 7, True, None, (1,)):
            told = self.raised(errors.InvalidNumber, "certify_rank", HILL, (), (), bound)
            self.assertIs(told.given, bound)
            self.raised(errors.InvalidLot, "certify_rank", HILL, (), (3,), bound)
            self.raised(errors.InvalidLot, "certify_rank", HILL, (3,), (), bound)
            self.raised(errors.InvalidTable, "certify_rank", None, (3,), (), bound)

    def test_the_errors_are_those_of_the_functions_named(self):
        named = {"certify_rank": "part_rank", "certify_regular": "is_regular", "certify_ranks": "are_ranks",
                 "certify_sizes": "carrier_with", "certify_bases": "bases_between", "certify_least": "is_least_carrier",
                 "certify_noughts": "has_noughts", "certify_half_pair": "half_pair", "certify_web": "web_break",
                 "certify_filled": "filling_of_rank"}
        of = {name: [at for at, _, _ in parameters] for _, name, parameters in FUNCTIONS}
        for name, other in named.items():
            self.assertEqual(of[name], of[other] + (["bound"] if name == "certify_rank" else []))


class Equal(unittest.TestCase):
    def test_equal_calls(self):
        calls = list(plain_calls())
        self.assertEqual(list(certified(calls)), list(certified(calls)))


if __name__ == "__main__":
    unittest.main()
