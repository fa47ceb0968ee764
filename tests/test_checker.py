"""The checker (points 2, 5 and 27)."""

import unittest
from itertools import combinations
from itertools import product as all_of

from cornerranks.carriers import carrier_with, least_carrier, rebased
from cornerranks.checker import accepts
from cornerranks.fillings import least_filling
from cornerranks.inverses import inverse, null_row
from cornerranks.tables import rank_pair, regular_part
from claims import WITH_NO_PAPER, WORDS, certified, claim_so, drawn_calls, others_of, plain_calls, shown
from samples import (
    CHAIN, DOWN, FLAT, HALF, HILL, LESS, LONG, NIL, ONE, STILL, TALL, THREE, TWO, Stream, carried_rows, drawn_carrier,
    drawn_sizes, is_plain, lots, numbers_of, sample_squares, sample_tables, small, sparse_squares, table_from, unit)
from test_fillings import EVEN, all_fillings
from test_webs import webs_of
from wrongs import (
    ANYTHING, DEEP, HUGE, NO_BANDS, NO_CARRIERS, NO_HIGHS, NO_LOWS, NO_SIZES, NO_SQUARES, NO_STAIRS, NO_TABLES, NO_WEBS,
    PATH, SINGULAR, STAR, STEPS, WIDE, no_lots, no_numbers, placed)

BACK = inverse(HILL)
LED = rebased(DOWN, (((TWO,),), ((HALF,),)))
# Each kind of claim, with a paper by hand.
GOOD = (
    (("rank up to", HILL, (1, 2), (0, 1), 1), (((TWO,), (ONE,)), ((ONE, TWO),))),
    (("rank up to", WIDE, (0,), (1, 2), 2), (((TWO, HALF),), ((ONE, NIL), (NIL, ONE)))),
    (("rank up to", ((NIL,),), (0,), (0,), 0), (((),), ())),
    (("rank up to", TALL, (), (0,), 2), ((), ((ONE,), (HALF,)))),
    (("rank up to", TALL, (0, 2), (), 1), (((ONE,), (TWO,)), ((),))),
    (("rank up to", TALL, (), (), 0), ((), ())),
    (("rank from", CHAIN, (0, 1, 2), (0, 1), 1), ((1,), (0,))),
    (("rank from", CHAIN, (0, 1, 2), (0, 1, 2), 2), ((0, 2), (0, 1))),
    (("rank from", LONG, (0,), (2,), 0), ((), ())),
    (("rank from", LONG, (), (), 0), ((), ())),
    (("regular", ((TWO, ONE), (ONE, ONE))), ((ONE, LESS), (LESS, TWO))),
    (("singular", FLAT), (ONE, LESS)),
    (("singular", ((NIL,),)), (HALF,)),
    (("some table", (1,), (0,)), ((NIL, NIL), (ONE, NIL))),
    (("some table", (), ()), ((NIL,),)),
    (("some table", (1, 1), (0, 1)), ((ONE, NIL, NIL), (ONE, ONE, ONE), (ONE, ONE, ONE))),
    (("no table", (2, 1), (0, 0)), ()),
    (("carried", ((TWO,),), ()), (((), (), ()),)),
    (("carried", FLAT, (1,)), (((), ((),), (HALF,)), ((TWO,), (), ()))),
    (("carried", FLAT, (2,)), (((), ((), ()), (ONE, ONE)), ((HALF, HALF), (), ()))),
    (("not carried", CHAIN, (1, 0)), (2, (2,), (1,))),
    (("not carried", CHAIN, (0, 0)), (1, (1,), (0,))),
    (("one in two bases", DOWN, LED), (((TWO,),), ((HALF,),))),
    (("one in two bases", STILL, STILL), ((), ())),
    (("unlike numbers", DOWN, STILL), (2, 0)),
    (("least", DOWN), ()),
    (("least", STILL[:1]), ()),
    (("wide", carrier_with(CHAIN, (2, 3))), carrier_with(CHAIN, (1, 3))),
    (("noughts", HILL, (2,), (0,)), (BACK[0],)),
    (("noughts", HILL, (), (0, 1)), BACK[:2]),
    (("noughts", HILL, (0, 1), ()), ()),
    (("no noughts", HILL, (0, 1), (1, 2)), (1, BACK[1])),
    (("half pair", HILL), ((THREE, TWO, ONE), (ONE, TWO, THREE))),
    (("no half pair", CHAIN), ()),
    (("web", HILL, PATH), ()),
    (("web", ((ONE,),), ()), ()),
    (("web broken", HILL, STAR), (0, (1,), (2,))),
    (("filled", 2, STEPS, 1), ((ONE, TWO), (ONE, TWO))),
    (("filled", 2, EVEN, 1), ((NIL, TWO), (NIL, ONE))),
    (("filled", 1, ((),), 0), ((NIL,),)),
    (("fillings from", 2, STEPS, 1), ((1, (ONE, NIL)),)),
    (("fillings from", 2, STEPS, 0), ()),
    (("fillings from", 2, ((ONE,), (NIL, ONE)), 2), ((0, (ONE,)), (1, (NIL, TWO)))),
    (("fillings up to", 2, EVEN, 1), (0,)),
    (("fillings up to", 2, STEPS, 2), ()),
    (("fillings up to", 3, ((NIL,), (NIL,), (NIL, ONE, TWO)), 3), ()),
)
# Right but for their papers, which show something else or nothing.
BAD = (
    (("rank up to", HILL, (1, 2), (0, 1), 1), (((TWO,), (ONE,)), ((ONE, ONE),))),
    (("rank up to", HILL, (1, 2), (0, 1), 2), (((TWO,), (ONE,)), ((ONE, TWO),))),
    (("rank up to", HILL, (1, 2), (0, 1), 0), (((TWO,), (ONE,)), ((ONE, TWO),))),
    (("rank up to", HILL, (0, 2), (0, 1), 1), (((TWO,), (ONE,)), ((ONE, TWO),))),
    (("rank up to", HILL, (1, 2), (0, 2), 1), (((TWO,), (ONE,)), ((ONE, TWO),))),
    (("rank up to", ((ONE,),), (0,), (0,), 0), (((),), ())),
    (("rank up to", TALL, (), (0,), 2), ((), ())), (("rank up to", TALL, (), (0,), 2), ((), ((ONE,),))),
    (("rank up to", TALL, (), (0,), 2), ((), ((ONE,), (ONE,), (ONE,)))),
    (("rank up to", TALL, (0, 2), (), 1), (((ONE,), (TWO,)), ())),
    (("rank up to", TALL, (0, 2), (), 1), (((), ()), ((),))), (("rank up to", TALL, (), (), 1), ((), ())),
    (("rank from", CHAIN, (0, 1, 2), (0, 1), 1), ((2,), (0,))), (("rank from", CHAIN, (0, 1), (0, 1), 1), ((2,), (1,))),
    (("rank from", CHAIN, (0, 1), (0, 1), 1), ((1,), (2,))), (("rank from", CHAIN, (0, 1), (0, 1), 2), ((0,), (0,))),
    (("rank from", CHAIN, (0, 1), (0, 1), 0), ((0,), (0,))), (("rank from", CHAIN, (0, 1), (0, 1), 2), ((1, 0), (0, 1))),
    (("rank from", CHAIN, (0, 1), (0, 1), 2), ((0, 0), (0, 0))), (("rank from", FLAT, (0, 1), (0, 1), 2), ((0, 1), (0, 1))),
    (("rank from", CHAIN, (0, 1), (0, 1), 1), ((0, 1), (0, 1))), (("rank from", CHAIN, (0, 1), (0, 1), 1), ((0,), ())),
    (("rank from", CHAIN, (0, 1), (0, 1), 1), ((0, 1), (0,))), (("rank from", CHAIN, (0, 1), (0, 1), 1), ((-1,), (0,))),
    (("regular", FLAT), FLAT), (("regular", CHAIN), CHAIN), (("regular", CHAIN), unit(3)), (("regular", CHAIN), unit(2)),
    (("singular", FLAT), (ONE, ONE)), (("singular", FLAT), (NIL, NIL)), (("singular", FLAT), (ONE, LESS, NIL)),
    (("singular", CHAIN), (NIL, NIL, NIL)), (("singular", ((NIL,),)), (NIL,)), (("singular", FLAT), (ONE,)),
    (("some table", (1,), (0,)), ((NIL, ONE), (NIL, NIL))), (("some table", (1,), (0,)), ((NIL,),)),
    (("some table", (), ()), FLAT), (("some table", (1,), (0,)), ((NIL, NIL), (ONE, NIL), (ONE, NIL))),
    (("some table", (1,), (0,)), ()), (("no table", (1, 1), (0, 0)), ()), (("no table", (2, 1), (0, 0)), unit(3)),
    (("carried", FLAT, (1,)), (((), ((),), (ONE,)), ((TWO,), (), ()))), (("carried", FLAT, (1,)), STILL[:2]),
    (("carried", FLAT, (1,)), DOWN), (("carried", unit(3), (0, 0)), STILL[:2]), (("carried", unit(3), (1, 0)), STILL),
    (("carried", CHAIN, (2, 1)), least_carrier(CHAIN)), (("carried", ((TWO,),), ()), ()),
    (("not carried", CHAIN, (1, 0)), (1, (1,), (0,))), (("not carried", CHAIN, (1, 1)), (2, (2,), (1,))),
    (("not carried", CHAIN, (1, 0)), (2, (2,), (0,))), (("not carried", CHAIN, (1, 0)), (2, (), ())),
    (("not carried", CHAIN, (1, 0)), (2, (1,), (1,))), (("not carried", CHAIN, (1, 0)), (2, (2,), (2,))),
    (("not carried", CHAIN, (1, 0)), (0, (2,), (1,))), (("not carried", CHAIN, (1, 0)), (3, (2,), (1,))),
    (("not carried", CHAIN, (1, 0)), (-1, (2,), (1,))), (("not carried", CHAIN, (1, 0)), (2, (2,), (0, 1))),
    (("not carried", CHAIN, (0, 0)), (1, (2, 1), (0, 1))), (("not carried", CHAIN, (1, 0)), (2, (3,), (1,))),
    (("not carried", FLAT, (0,)), (1, (1,), (1,))), (("not carried", ((ONE,),), ()), (1, (0,), (0,))),
    (("not carried", HILL, (1, 1)), (1, (1, 2), (0, 1))), (("not carried", HILL, (1, 1)), (2, (1, 2), (0, 1))),
    (("one in two bases", DOWN, LED), (((HALF,),), ((TWO,),))), (("one in two bases", DOWN, DOWN), ((), ())),
    (("one in two bases", DOWN, STILL), (((ONE,),), ((ONE,),))), (("one in two bases", STILL, DOWN), ((), ())),
    (("one in two bases", DOWN, DOWN), (((NIL,),), ((NIL,),))), (("one in two bases", DOWN, DOWN), (((ONE,),),)),
    (("unlike numbers", DOWN, LED), (2, 0)), (("unlike numbers", DOWN, STILL), (0, 2)),
    (("unlike numbers", DOWN, STILL), (1, 1)), (("unlike numbers", DOWN, STILL), (3, 0)),
    (("unlike numbers", DOWN, STILL), (2, -1)), (("unlike numbers", DOWN, STILL), (2,)), (("least", LED), (0,)),
    (("least", carrier_with(CHAIN, (2, 3))), ()), (("wide", DOWN), DOWN), (("wide", DOWN), STILL), (("wide", DOWN), LED),
    (("wide", carrier_with(CHAIN, (2, 3))), carrier_with(CHAIN, (2, 3))),
    (("wide", carrier_with(CHAIN, (2, 3))), carrier_with(CHAIN, (3, 1))),
    (("wide", carrier_with(CHAIN, (2, 3))), carrier_with(HILL, (1, 1))), (("wide", STILL), STILL[:2]),
    (("noughts", HILL, (2,), (0,)), (BACK[2],)), (("noughts", HILL, (2,), (0,)), ()), (("noughts", HILL, (2,), (0,)), BACK),
    (("noughts", HILL, (2,), (0,)), ((NIL, NIL, NIL),)), (("noughts", HILL, (), (0, 1)), (BACK[1], BACK[0])),
    (("noughts", HILL, (1,), (0,)), (BACK[0],)), (("noughts", FLAT, (), ()), ()), (("noughts", HILL, (), ()), (BACK[0],)),
    (("noughts", ((ONE, ONE), (NIL, NIL)), (1,), (0,)), ((ONE, NIL),)), (("noughts", HILL, (2,), (0, 1)), BACK[:2]),
    (("no noughts", HILL, (0, 1), (1, 2)), (0, BACK[0])), (("no noughts", HILL, (0, 1), (1, 2)), (1, BACK[2])),
    (("no noughts", HILL, (0,), (1, 2)), (2, BACK[2])), (("no noughts", HILL, (), (1, 2)), (1, BACK[1])),
    (("no noughts", HILL, (2,), (0,)), (0, BACK[0])), (("no noughts", HILL, (0, 1), ()), (1, BACK[1])),
    (("no noughts", ((ONE, ONE), (NIL, NIL)), (0,), (0,)), (0, (ONE, NIL))), (("no noughts", HILL, (0,), (0,)), (0, BACK)),
    (("half pair", HILL), ((ONE, TWO, THREE), (THREE, TWO, ONE))), (("half pair", FLAT), ((ONE, ONE), (ONE, ONE))),
    (("half pair", CHAIN), ((THREE, TWO, ONE), (ONE, TWO, THREE))), (("half pair", unit(2)), ((ONE, ONE), (ONE, ONE))),
    (("half pair", HILL), ((THREE, TWO), (ONE, TWO))), (("half pair", HILL), ((THREE, TWO, ONE),)),
    (("no half pair", HILL), ()), (("no half pair", FLAT), ()), (("no half pair", SINGULAR), ()),
    (("no half pair", CHAIN), (0,)), (("web", HILL, STAR), ()), (("web", SINGULAR, PATH), ()), (("web", FLAT, ((0, 1),)), ()),
    (("web", HILL, PATH), (0,)), (("web", HILL, PATH), None), (("web broken", HILL, PATH), (1, (0,), (2,))),
    (("web broken", HILL, STAR), (1, (0,), (2,))), (("web broken", HILL, STAR), (0, (1,), (1,))),
    (("web broken", HILL, STAR), (0, (1, 2), ())), (("web broken", HILL, STAR), (0, (), (1, 2))),
    (("web broken", HILL, STAR), (0, (0, 1), (2,))), (("web broken", HILL, STAR), (0, (1, 2), (2,))),
    (("web broken", HILL, STAR), (0, (1,), (3,))), (("web broken", HILL, STAR), (-3, (1,), (2,))),
    (("web broken", HILL, STAR), (3, (1,), (2,))), (("web broken", SINGULAR, PATH), (1, (0,), (2,))),
    (("web broken", inverse(CHAIN), ((0, 2), (1, 2))), (0, (1,), (2,))),
    (("filled", 2, STEPS, 2), ((ONE, TWO), (ONE, TWO))), (("filled", 2, STEPS, 1), ((TWO, TWO), (ONE, TWO))),
    (("filled", 2, STEPS, 1), ((ONE, TWO),)), (("filled", 3, STEPS, 1), ((ONE, TWO), (ONE, TWO))),
    (("filled", 2, STEPS, 1), ((ONE, TWO), (ONE, TWO), (ONE, TWO))), (("filled", 2, STEPS, 1), STEPS),
    (("fillings from", 2, STEPS, 1), ((0, (ONE,)),)), (("fillings from", 2, STEPS, 1), ((1, (NIL, NIL)),)),
    (("fillings from", 2, STEPS, 1), ((1, (TWO, LESS)),)), (("fillings from", 2, STEPS, 1), ()),
    (("fillings from", 2, STEPS, 0), ((1, (ONE, NIL)),)), (("fillings from", 2, STEPS, 2), ((1, (ONE, NIL)),) * 2),
    (("fillings from", 2, STEPS, 1), ((1, (ONE,)),)), (("fillings from", 2, STEPS, 1), ((1, (ONE, NIL, NIL)),)),
    (("fillings from", 2, STEPS, 1), ((-1, (ONE, NIL)),)), (("fillings from", 2, STEPS, 1), ((2, (ONE, NIL)),)),
    (("fillings from", 2, ((ONE,), (NIL, ONE)), 2), ((1, (NIL, TWO)), (0, (ONE,)))),
    (("fillings from", 2, ((ONE,), (NIL, ONE)), 2), ((0, (ONE,)),)), (("fillings from", 2, ((), (ONE,)), 1), ((0, ()),)),
    (("fillings from", 2, ((ONE,), (NIL, ONE)), 1), ((0, (ONE,)), (1, (NIL, TWO)))),
    (("fillings up to", 2, EVEN, 1), (1,)), (("fillings up to", 2, EVEN, 1), ()), (("fillings up to", 2, EVEN, 0), (0,)),
    (("fillings up to", 2, EVEN, 1), (-2,)), (("fillings up to", 2, EVEN, 1), (2,)), (("fillings up to", 2, EVEN, 1), (0, 0)),
    (("fillings up to", 2, EVEN, 1), 0), (("fillings up to", 2, EVEN, 2), (0,)), (("fillings up to", 2, STEPS, 1), (0,)),
    (("fillings up to", 2, STEPS, 2), (0,)), (("fillings up to", 2, STEPS, 6), (1,)), (("fillings up to", 1, EVEN, 2), ()),
)
ODD = ANYTHING + (DEEP, ONE, (ONE,), (), ((),), (None,), ("web",), ((), ()), 2, 7, HUGE * HUGE)


class Loud:
    """A value that is no tuple and must not be compared with anything."""

    def __eq__(self, other):
        raise AssertionError("it was compared")

    def __hash__(self):
        raise AssertionError("it was looked up")

    def __len__(self):
        raise AssertionError("it was measured")

    def __bool__(self):
        raise AssertionError("it was tested")


class Agreeing:
    """A value that says it is equal to anything."""

    def __eq__(self, other):
        return True

    def __hash__(self):
        return hash(())

    def __len__(self):
        return 0


def bent(value, bend):
    """All values with one thing in them, or the whole, bent in one of the ways that `bend` tells."""
    for other in bend(value):
        yield other
    if isinstance(value, tuple):
        for place, inner in enumerate(value):
            for other in bent(inner, bend):
                yield placed(value, place, other)


def bent_kinds(value):
    """Another kind of value in the place of this one."""
    if isinstance(value, tuple):
        yield from (list(value), None, value + (None,), (value,), dict(enumerate(value)), 1)
    elif isinstance(value, str):
        yield from (None, 0, value.encode(), [value], (value,), value + " ", value.upper(), value[1:], "")
    else:
        yield from (None, str(value), (value,), [value], {value: value})
        if value in (0, 1):
            yield bool(value)


def bent_numbers(value):
    """Another number in the place of this one."""
    if type(value) is int:
        yield from (value + 1, value - 1, -value - 2)


class Case(unittest.TestCase):
    def refused(self, claim, paper):
        self.assertIs(accepts(claim, paper), False, (claim, paper))


class Papers(Case):
    def test_good_ones(self):
        for claim, paper in GOOD:
            with self.subTest(claim=claim):
                self.assertIs(accepts(claim, paper), True)
                self.assertIs(accepts(claim=claim, paper=paper), True)
                self.assertIs(accepts(paper=paper, claim=claim), True)
                self.assertIs(claim_so(claim), True)
                if claim[0] not in WITH_NO_PAPER:
                    self.assertTrue(shown(claim, paper))
        self.assertEqual({claim[0] for claim, _ in GOOD}, set(WORDS))

    def test_bad_ones(self):
        for claim, paper in BAD:
            with self.subTest(claim=claim, paper=paper):
                self.refused(claim, paper)
        self.assertEqual({claim[0] for claim, _ in BAD}, set(WORDS))

    def test_a_part_more_or_less(self):
        for claim, paper in GOOD:
            for more in ((), 0, None, 1, claim[-1]):
                self.refused(claim + (more,), paper)
            for at in range(len(claim)):
                self.refused(claim[:at] + claim[at + 1:], paper)
            if isinstance(paper, tuple):
                for more in ((), 0, None, ONE):
                    self.refused(claim, paper + (more,))
                for at in range(len(paper)):
                    self.refused(claim, paper[:at] + paper[at + 1:])

    def test_a_bent_word(self):
        for claim, paper in GOOD:
            for word in (claim[0].upper(), claim[0] + " ", " " + claim[0], claim[0][:-1], claim[0].replace(" ", "  ") + ".",
                         claim[0].encode(), (claim[0],), [claim[0]], None, "", "claim", 0, claim[0].title(), HUGE):
                self.refused((word,) + claim[1:], paper)
            for word in WORDS:
                other = (word,) + claim[1:]
                if word != claim[0] and accepts(other, paper):
                    # Then it is so, too, as (): the rank is from 0 on, up to more than there are rows.
                    self.assertIs(claim_so(other), True)

    def test_another_kind_anywhere_in_a_paper(self):
        for claim, paper in GOOD:
            for other in bent(paper, bent_kinds):
                self.refused(claim, other)

    def test_another_kind_anywhere_in_a_claim(self):
        for claim, paper in GOOD:
            for other in bent(claim, bent_kinds):
                self.refused(other, paper)

    def test_another_number_anywhere_in_a_paper(self):
        for claim, paper in GOOD:
            for other in bent(paper, bent_numbers):
                told = accepts(claim, other)
                self.assertIs(type(told), bool)
                if told:
                    self.assertTrue(is_plain(other) and shown(claim, other), (claim, other))

    def test_another_number_anywhere_in_a_claim(self):
        for claim, paper in GOOD:
            for other in bent(claim[1:], bent_numbers):
                told = accepts((claim[0],) + other, paper)
                self.assertIs(type(told), bool)
                if told:
                    self.assertIs(claim_so((claim[0],) + other), True, other)

    def test_papers_that_the_package_makes(self):
        for claim, paper in certified(drawn_calls(371, 4)):
            self.assertIs(accepts(claim, paper), True)
        for table, rank in sample_tables(372, 4):
            down, across = tuple(range(len(table))), tuple(range(len(table[0])))
            if rank:
                self.assertIs(accepts(("rank up to", table, down, across, rank), rank_pair(table)), True)
            paper = regular_part(table, down, across)
            self.assertIs(accepts(("rank from", table, down, across, rank), paper), True)
        for table, rank in sample_squares(373, 4):
            if rank < len(table):
                self.assertIs(accepts(("singular", table), null_row(table)), True)


class Bounds(Case):
    def test_wrong_things_in_claims(self):
        lots_of_three = no_lots(3)
        for value in NO_TABLES + ANYTHING:
            self.refused(("rank up to", value, (), (), 0), ((), ()))
            self.refused(("rank from", value, (), (), 0), ((), ()))
        for value in NO_SQUARES:
            for word, told, paper in (("regular", (), CHAIN), ("singular", (), (ONE, ONE, ONE)), ("half pair", (), ()),
                                      ("no half pair", (), ()), ("web", (PATH,), ()), ("noughts", ((), ()), ()),
                                      ("carried", ((),), STILL[:1]), ("web", ((),), ())):
                self.refused((word, value) + told, paper)
        for value in lots_of_three:
            self.refused(("rank up to", CHAIN, value, (), 0), ((), ()))
            self.refused(("rank from", CHAIN, (), value, 0), ((), ()))
            self.refused(("rank from", CHAIN, value, (), 0), ((), ()))
            self.refused(("noughts", HILL, value, ()), ())
            self.refused(("noughts", HILL, (2,), value), (BACK[0],))
            self.refused(("rank from", CHAIN, (0, 1, 2), (0, 1, 2), 1), (value, (0,)))
            self.refused(("rank from", CHAIN, (0, 1, 2), (0, 1, 2), 1), ((0,), value))
            self.refused(("not carried", CHAIN, (1, 0)), (2, value, (1,)))
            self.refused(("not carried", CHAIN, (1, 0)), (2, (2,), value))
            self.refused(("web broken", HILL, STAR), (0, value, (2,)))
            self.refused(("web broken", HILL, STAR), (0, (1,), value))

    def test_wrong_ranks_sizes_webs_and_stairs(self):
        for value, _ in NO_LOWS:
            self.refused(("no table", value, (0, 0, 0)), ())
            self.refused(("no table", value, value), ())
        for value, _ in NO_HIGHS:
            self.refused(("no table", (0, 3, 0), value), ())
        for value, _ in NO_SIZES:
            self.refused(("carried", unit(3), value), STILL)
            self.refused(("not carried", CHAIN, value), (2, (2,), (1,)))
        for value, _ in NO_WEBS:
            self.refused(("web", unit(3), value), ())
            self.refused(("web broken", HILL, value), (0, (1,), (2,)))
        for value, _ in NO_STAIRS:
            self.refused(("fillings from", 3, value, 0), ())
            self.refused(("fillings up to", 3, value, 6), ())
        for value, _ in NO_CARRIERS:
            self.refused(("least", value), ())
            self.refused(("unlike numbers", value, STILL), (2, 0))
            self.refused(("unlike numbers", DOWN, value), (2, 0))
            self.refused(("wide", carrier_with(CHAIN, (2, 2))), value)
            self.refused(("carried", CHAIN, (1, 1)), value)

    def test_numbers_out_of_bounds(self):
        for bound in no_numbers(0, 6):
            self.refused(("rank up to", FLAT, (), (), bound), ((), ()))
            self.refused(("rank from", FLAT, (), (), bound), ((), ()))
            self.refused(("fillings from", 2, STEPS, bound), ())
            self.refused(("fillings up to", 2, STEPS, bound), ())
            self.refused(("filled", 2, STEPS, bound), ((ONE, TWO), (ONE, TWO)))
        for size in no_numbers(1, 6):
            self.refused(("fillings up to", size, ((),), 1), ())
            self.refused(("fillings from", size, ((),), 0), ())
            self.refused(("filled", size, ((),), 0), ((NIL,),))
        for place in no_numbers(0, 2):
            self.refused(("no noughts", HILL, (0, 1, 2), (0, 1, 2)), (place, BACK[1]))
            self.refused(("web broken", HILL, STAR), (place, (1,), (2,)))
            self.refused(("unlike numbers", DOWN, STILL), (place, 0))
            self.refused(("unlike numbers", DOWN, STILL), (2, place))
            self.refused(("fillings up to", 3, ((NIL,),) * 3, 2), (place,))

    def test_the_greatest_and_the_least_bounds(self):
        noughts = ((NIL,) * 6,) * 6
        whole = tuple(range(6))
        self.assertIs(accepts(("rank up to", noughts, whole, whole, 6), (noughts, noughts)), True)
        self.assertIs(accepts(("rank up to", noughts, whole, whole, 0), (((),) * 6, ())), True)
        self.assertIs(accepts(("rank from", unit(6), whole, whole, 6), (whole, whole)), True)
        self.assertIs(accepts(("rank from", noughts, whole, whole, 0), ((), ())), True)
        self.assertIs(accepts(("fillings from", 6, unit(6), 6), tuple((k, unit(6)[k]) for k in whole)), True)
        self.assertIs(accepts(("fillings up to", 6, noughts, 0), (0,)), True)
        self.assertIs(accepts(("fillings up to", 6, unit(6), 6), ()), True)
        self.assertIs(accepts(("some table", (0,) * 5, (0,) * 5), noughts), True)
        self.assertIs(accepts(("no table", (6,) * 5, (6,) * 5), ()), True)
        self.refused(("no table", (6,) * 6, (6,) * 6), ())
        self.refused(("no table", (2,), ()), ())
        self.refused(("least", STILL[:1] * 7), ())
        self.assertIs(accepts(("carried", noughts, (6,) * 5), carrier_with(noughts, (6,) * 5)), True)
        self.assertIs(accepts(("wide", carrier_with(noughts, (6,) * 5)), STILL[:1] * 6), True)

    def test_carriers_of_unlike_numbers_of_places(self):
        for word, paper in (("one in two bases", ((), ())), ("one in two bases", ((),)), ("unlike numbers", (1, 0))):
            self.refused((word, STILL, STILL[:2]), paper)
            self.refused((word, STILL[:2], DOWN), paper)

    def test_carriers_that_are_not_least_may_be_one_in_two_bases(self):
        wide = carrier_with(CHAIN, (2, 2))
        bases = (((ONE, TWO), (NIL, ONE)), ((TWO, ONE), (ONE, ONE)))
        self.assertIs(accepts(("one in two bases", wide, rebased(wide, bases)), bases), True)
        self.refused(("one in two bases", wide, least_carrier(CHAIN)), bases)

    def test_singular_squares_of_claims_on_inverses(self):
        # The rows solve what the papers ask, but the table is singular.
        table = ((ONE, NIL, NIL), (NIL, NIL, NIL), (NIL, NIL, ONE))
        self.refused(("noughts", table, (1, 2), (0,)), (table[0],))
        self.refused(("no noughts", table, (0, 1), (0,)), (0, table[0]))
        self.refused(("half pair", ((NIL,),)), ((NIL,), (NIL,)))
        for word in ("half pair", "no half pair"):
            self.refused((word, ((NIL,),)), ())
        for web in webs_of(3):
            self.refused(("web", table, web), ())
            for place, rows, columns in all_of(range(3), lots(3), lots(3)):
                self.refused(("web broken", SINGULAR, web), (place, rows, columns))


class AnyValue(Case):
    def test_any_claim_and_any_paper(self):
        for claim in ODD:
            for paper in ODD:
                self.refused(claim, paper)

    def test_any_paper(self):
        for claim, good in GOOD:
            for paper in ODD + tuple(other for _, other in GOOD):
                told = accepts(claim, paper)
                self.assertIs(type(told), bool)
                if told and claim[0] not in WITH_NO_PAPER:
                    self.assertTrue(shown(claim, paper), (claim, paper))
                if claim[0] in WITH_NO_PAPER or good == ():
                    self.assertIs(told, isinstance(paper, tuple) and len(paper) == 0)

    def test_any_value_as_a_part_of_a_claim(self):
        for claim, paper in GOOD:
            for at in range(len(claim)):
                for value in ODD + NO_BANDS:
                    other = placed(claim, at, value)
                    told = accepts(other, paper)
                    self.assertIs(type(told), bool)
                    if told:
                        self.assertIs(claim_so(other), True, other)

    def test_any_value_as_a_part_of_a_paper(self):
        for claim, paper in GOOD:
            for at in range(len(paper)):
                for value in ODD + NO_TABLES:
                    other = placed(paper, at, value)
                    told = accepts(claim, other)
                    self.assertIs(type(told), bool)
                    if told:
                        self.assertTrue(shown(claim, other), (claim, other))

    def test_words_alone(self):
        for word in WORDS:
            for claim in (word, (word,), [word], (word, ()), (word, None), (word, (), ()), (word, (), (), ())):
                for paper in ((), None, ((), ()), (0,)):
                    self.refused(claim, paper)

    def test_values_that_are_like_all_others(self):
        for claim, paper in GOOD:
            for value in (Loud(), Agreeing()):
                self.refused(claim, value)
                self.refused(value, paper)
                for other in bent(claim, lambda _: (value,)):
                    self.refused(other, paper)
                for other in bent(paper, lambda _: (value,)):
                    self.refused(claim, other)

    def test_nothing_is_changed(self):
        claim, paper = ["web", [HILL], {}], {"a": [1]}
        self.refused(claim, paper)
        self.refused(("web", [HILL], {}), paper)
        self.assertEqual((claim, paper), (["web", [HILL], {}], {"a": [1]}))


class Excluding(Case):
    """The claim that a certificate excludes has no paper that is accepted, of many that are tried."""

    def tried(self, calls, word, papers):
        count = 0
        for claim, _ in certified(calls):
            for other in others_of(claim):
                if other[0] == word:
                    for paper in papers(other):
                        count += 1
                        self.refused(other, paper)
        self.assertGreater(count, 30, word)

    def calls(self, *names):
        return [call for call in list(plain_calls()) + list(drawn_calls(381, 3)) if call[0] in names]

    def pool(self, word):
        """All papers for claims of this word that were made for anything."""
        if not hasattr(self, "made"):
            self.made = list(certified(list(plain_calls()) + list(drawn_calls(382, 3)))) + list(GOOD)
        return [paper for claim, paper in self.made if claim[0] == word] + [()]

    def test_papers_of_other_claims(self):
        for name, words in (
                ("certify_rank", ("rank up to", "rank from")), ("certify_regular", ("regular", "singular")),
                ("certify_ranks", ("some table", "no table")), ("certify_sizes", ("carried", "not carried")),
                ("certify_bases", ("one in two bases", "unlike numbers")), ("certify_least", ("least", "wide")),
                ("certify_noughts", ("noughts", "no noughts")), ("certify_half_pair", ("half pair", "no half pair")),
                ("certify_web", ("web", "web broken")),
                ("certify_filled", ("filled", "fillings from", "fillings up to"))):
            for word in words:
                papers = self.pool(word)
                self.tried(self.calls(name), word, lambda _: papers)

    def test_all_lots(self):
        def pairs(claim):
            table, bound = claim[1], claim[-1]
            return all_of(combinations(range(len(table)), bound), combinations(range(len(table[0])), bound))

        def triples(claim):
            many = len(claim[1])
            return all_of(range(many + 1), lots(many), lots(many))

        self.tried(self.calls("certify_rank"), "rank from", pairs)
        self.tried(self.calls("certify_sizes"), "not carried", triples)
        self.tried(self.calls("certify_web"), "web broken", triples)

    def test_all_places_and_columns(self):
        def places(claim):
            return all_of(range(len(claim[1])), repeat=2)

        def columns(claim):
            return all_of(range(len(claim[1])), zip(*inverse(claim[1])))

        def some_columns(claim):
            return all_of(tuple(zip(*inverse(claim[1]))), repeat=len(claim[3]))

        self.tried(self.calls("certify_bases"), "unlike numbers", places)
        self.tried(self.calls("certify_noughts"), "no noughts", columns)
        self.tried(self.calls("certify_noughts"), "noughts", some_columns)

    def test_small_rows(self):
        numbers = (NIL, ONE, LESS, TWO)

        def rows(claim):
            return all_of(numbers, repeat=len(claim[1]))

        def pairs(claim):
            many = len(claim[1])
            return all_of(all_of(numbers[:3], repeat=many), all_of(numbers[:3], repeat=many))

        def needed(claim):
            stairs, bound = claim[2], claim[3]
            if len(stairs) > 3 or bound > len(stairs):
                return []
            each = [[(i, row) for row in all_of(numbers, repeat=min(len(told), 3))] for i, told in enumerate(stairs)]
            return (paper for some in combinations(each, min(bound, 2)) for paper in all_of(*some))

        calls = [call for call in self.calls("certify_regular", "certify_half_pair") if len(call[1][0]) < 4]
        self.tried(calls, "singular", rows)
        self.tried(calls, "half pair", pairs)
        self.tried(self.calls("certify_filled"), "fillings from", needed)

    def test_small_fillings(self):
        def fillings(claim):
            size, stairs = claim[1], claim[2]
            if sum(size - len(row) for row in stairs) > 4:
                return [least_filling(size, stairs)]
            return all_fillings(stairs, size, (-1, 0, 1, 2))

        def index(claim):
            return [()] + [(i,) for i in range(-1, 7)]

        calls = []
        for _, (size, stairs, _) in self.calls("certify_filled"):
            calls += [("certify_filled", (size, stairs, rank)) for rank in (0, 6)]
        self.tried(calls[::7], "filled", fillings)
        self.tried(calls, "fillings up to", index)

    def test_small_carriers(self):
        stream = Stream(383)
        drawn = [drawn_carrier(stream, drawn_sizes(stream, 3, 1)) for _ in range(40)]

        def carriers(claim):
            return [other for other in drawn if carried_rows(other) == carried_rows(claim[1])] + [claim[1], STILL]

        self.tried([("certify_least", (carrier_with(table_from(carried_rows(other)), (1, 1)),)) for other in drawn]
                   + [("certify_least", (other,)) for other in drawn], "wide", carriers)

        def bases(_):
            return all_of([((ONE,),), ((TWO,),), ((LESS,),), ()], repeat=2)

        unlike = [("certify_bases", (DOWN, least_carrier(table_from(carried_rows(other))))) for other in drawn]
        self.tried(unlike, "one in two bases", bases)

    def test_small_tables(self):
        def tables(claim):
            many = len(claim[1]) + 1
            return (table_from([numbers[many * i:many * i + many] for i in range(many)])
                    for numbers in all_of((0, 1), repeat=many * many))

        ranks = list(all_of(range(3), repeat=2))
        calls = [("certify_ranks", pair) for pair in all_of(ranks[::2], ranks[1::3])]
        self.tried(calls, "some table", tables)


class Truth(Case):
    def test_what_is_accepted_is_so(self):
        # Papers made for one thing, tried on claims of another one of the same shape.
        found = 0
        made = list(certified(drawn_calls(391, 3))) + list(certified(plain_calls())) + list(GOOD)
        for word in WORDS:
            claims = [claim for claim, _ in made if claim[0] == word][:60]
            papers = {paper for claim, paper in made if claim[0] == word}
            for claim in claims:
                for paper in papers:
                    if accepts(claim, paper):
                        found += 1
                        self.assertIs(claim_so(claim), True, (claim, paper))
                        if word not in WITH_NO_PAPER:
                            self.assertTrue(shown(claim, paper), (claim, paper))
        self.assertGreater(found, 500)

    def test_webs_and_half_pairs_of_all_small_tables(self):
        for table in sparse_squares(392, 4, 10):
            for word, other in (("half pair", "no half pair"),):
                self.assertIs(accepts((other, table), ()), claim_so((other, table)))
            for web in webs_of(len(table)):
                self.assertIs(accepts(("web", table, web), ()), claim_so(("web", table, web)))

    def test_ranks_and_carriers_with_no_paper(self):
        for lows, highs in all_of(list(all_of(range(3), repeat=3)), [(0, 0, 0), (1, 2, 1), (2, 1, 0)]):
            self.assertIs(accepts(("no table", lows, highs), ()), claim_so(("no table", lows, highs)))
        stream = Stream(393)
        for many in range(1, 7):
            for _ in range(20):
                carrier = drawn_carrier(stream, drawn_sizes(stream, many, 2), small)
                self.assertIs(accepts(("least", carrier), ()), claim_so(("least", carrier)))

    def test_numbers_are_numbers(self):
        # numbers_of would take unreduced fractions; the checker does not.
        self.assertEqual(numbers_of((((2, 2),),)), numbers_of(((ONE,),)))
        self.refused(("regular", ((ONE,),)), (((2, 2),),))
        self.refused(("regular", (((2, 2),),)), ((ONE,),))
        self.refused(("singular", FLAT), ((2, 2), LESS))
        self.assertIs(accepts(("singular", FLAT), (TWO, (-2, 1))), True)


if __name__ == "__main__":
    unittest.main()
