"""[19] and [20]: equations, conditions, papers and when they hold."""

import copy
import unittest

from loopturn.finder import touch
from loopturn.errors import TooMany
from loopturn.papers import conditions_of, equations_of, holds
from samples import SIXTY_MIXED, SIXTY_NINES, SMALL, Draw, at, at_once, span
from walks import Asked, first_meeting, keeps_ends, turns_by_hand, worth

BIG = 10 ** 18
I = (1, 0)


class Equations(unittest.TestCase):
    def check(self, place, spot, sums):
        told = equations_of(place, spot)
        self.assertIs(type(told), list)
        self.assertEqual(told, sums)
        self.assertEqual([type(total) for total in told], [tuple] * len(sums))
        self.assertEqual({type(part) for total in told for part in total} | {int}, {int})

    def test_one_sum(self):
        self.check(at("a", (2, -1, 3)), at("a", (5, 7)), [(2, -1, -5, -4)])
        self.check(at("a", (5, 7)), at("a", (2, -1, 3)), [(5, -2, 1, 4)])
        self.check(at("a", (1, 0)), at("a", (1, 0)), [(1, -1, 0)])
        self.check(at("ab", (0, 0)), at("ab", (0, 0, 0, 9)), [(0, 0, 0, 0, -9)])

    def test_two_sums(self):
        place, spot = at("a", (1, 2, 3), (4, 5, 6)), at("a", (10, 20), (-30, 40))
        self.check(place, spot, [(1, 2, -10, -17), (4, 5, 30, -34)])
        self.check(spot, place, [(10, -1, -2, 17), (-30, -4, -5, 34)])

    def test_three_loops_each(self):
        place, spot = at("a", (1, 2, 3, 4)), at("a", (5, 6, 7, 8))
        self.check(place, spot, [(1, 2, 3, -5, -6, -7, -4)])
        self.check(spot, place, [(5, 6, 7, -1, -2, -3, 4)])

    def test_unlike(self):
        self.check(at("a", (1, 0)), at("b", (1, 0)), [])
        self.check(at("a", (1, 0)), at("a", (1, 0), (1, 0)), [])
        self.check(at("a", (1, 0), (1, 0)), at("a", (1, 0)), [])
        self.check(at("a", (1, 0), (1, 0)), at("ab", (1, 0), (1, 0)), [])
        self.check(at("a", (1, 0), (1, 0)), at("ab", (1, 0)), [])

    def test_sixty_figures(self):
        self.check(
            at("a", (SIXTY_NINES, -SIXTY_MIXED)),
            at("a", (SIXTY_MIXED, SIXTY_NINES)),
            [(SIXTY_NINES, -SIXTY_MIXED, -SIXTY_MIXED - SIXTY_NINES)],
        )

    def test_0_just_where_the_sums_are_the_same(self):
        draw = Draw(190, SMALL)
        for again in range(200):
            names, others = draw.upto(1, 3), draw.upto(1, 3)
            place, spot = draw.place(names, ("a", "b")), draw.place(others, ("a", "b"))
            sums = equations_of(place, spot)
            alike = place[0] == spot[0] and len(place[1]) == len(spot[1])
            self.assertEqual(len(sums), len(place[1]) if alike else 0)
            for again_too in range(20):
                turn = tuple(draw.upto(-3, 3) for one in range(names))
                there = tuple(draw.upto(-3, 3) for one in range(others))
                for total, mine, yours in zip(sums, place[1], spot[1]):
                    self.assertEqual(worth(total, turn + there), worth(mine, turn) - worth(yours, there))


class Conditions(unittest.TestCase):
    def check(self, one, other, sums):
        told = conditions_of(one, other)
        self.assertIs(type(told), list)
        self.assertEqual(told, sums)
        self.assertEqual([type(total) for total in told], [tuple] * len(sums))
        self.assertEqual({type(part) for total in told for part in total} | {int}, {int})

    def test_one_loop_each(self):
        self.check((span("i", 2, 9),), (span("j", -3, 4),), [(1, 0, -2), (-1, 0, 9), (0, 1, 3), (0, -1, 4)])
        self.check((span("j", -3, 4),), (span("i", 2, 9),), [(1, 0, 3), (-1, 0, 4), (0, 1, -2), (0, -1, 9)])

    def test_the_same_loops_twice(self):
        loops = (span("i", 0, 9), ("j", ((1, (1, 0)),), ((1, (2, 4)),)))
        self.check(loops, loops, [
            (1, 0, 0, 0, 0), (-1, 0, 0, 0, 9), (-1, 1, 0, 0, 0), (2, -1, 0, 0, 4),
            (0, 0, 1, 0, 0), (0, 0, -1, 0, 9), (0, 0, -1, 1, 0), (0, 0, 2, -1, 4),
        ])

    def test_lows_and_then_highs_with_divisors(self):
        loop = ("j", ((3, (2, 5)), (1, (-1, 0))), ((2, (7, -8)), (4, (0, 9)), (1, (1, 1))))
        self.check((span("i", 0, 1), loop), (span("k", 0, 1),), [
            (1, 0, 0, 0), (-1, 0, 0, 1),
            (-2, 3, 0, -5), (1, 1, 0, 0), (7, -2, 0, -8), (0, -4, 0, 9), (1, -1, 0, 1),
            (0, 0, 1, 0), (0, 0, -1, 1),
        ])
        self.check((span("k", 0, 1),), (span("i", 0, 1), loop), [
            (1, 0, 0, 0), (-1, 0, 0, 1),
            (0, 1, 0, 0), (0, -1, 0, 1),
            (0, -2, 3, -5), (0, 1, 1, 0), (0, 7, -2, -8), (0, 0, -4, 9), (0, 1, -1, 1),
        ])

    def test_three_loops(self):
        deep = ("k", ((5, (3, 4, 2)),), ((6, (-3, -4, -2)),))
        loops = (span("i", 0, 1), span("j", 0, 1, 1), deep)
        told = conditions_of(loops, (span("i", 0, 1),))
        self.assertEqual(told[4:6], [(-3, -4, 5, 0, -2), (-3, -4, -6, 0, -2)])
        self.assertEqual(len(told), 8)

    def test_sixty_figures(self):
        loop = ("i", ((SIXTY_NINES, (SIXTY_MIXED,)),), ((SIXTY_MIXED, (-SIXTY_NINES,)),))
        self.check((loop,), (span("j", 0, 0),), [
            (SIXTY_NINES, 0, -SIXTY_MIXED), (-SIXTY_MIXED, 0, -SIXTY_NINES), (0, 1, 0), (0, -1, 0),
        ])

    def test_not_below_0_just_where_ends_are_kept(self):
        draw = Draw(191, SMALL)
        for again in range(150):
            one, other = drawn_loops(draw), drawn_loops(draw)
            sums = conditions_of(one, other)
            self.assertEqual(len(sums), sum(len(lows) + len(highs) for name, lows, highs in one + other))
            for again_too in range(30):
                values = tuple(draw.upto(-4, 4) for name in one + other)
                kept = keeps_ends(one, values[:len(one)]) and keeps_ends(other, values[len(one):])
                self.assertEqual(all(worth(total, values) >= 0 for total in sums), kept)

    def test_by_hand(self):
        draw = Draw(192)
        for again in range(200):
            one, other = drawn_loops(draw), drawn_loops(draw)
            asked = Asked(one, at("a", (0,) * len(one) + (0,)), other, at("a", (0,) * len(other) + (0,)))
            self.check(one, other, asked.conditions())


def drawn_loops(draw):
    return tuple(draw.bounded_loop(name, outer) for outer, name in enumerate("ijk"[:draw.upto(1, 3)]))


class Walked(unittest.TestCase):
    """Two loops of one name each, unless a test says otherwise."""

    one = (span("i", 0, 9),)
    other = (span("j", 0, 9),)
    place = at("a", (1, 0))
    spot = at("a", (1, 0))

    def told(self, paper, pair, **instead):
        ask = {"one": self.one, "place": self.place, "other": self.other, "spot": self.spot}
        ask.update(instead)
        kept = copy.deepcopy(paper)
        answer = holds(ask["one"], ask["place"], ask["other"], ask["spot"], pair, paper)
        self.assertEqual(paper, kept)
        self.assertEqual([type(part) for part in paper], [tuple] * len(paper))
        return answer

    def yes(self, paper, pair=None, **instead):
        with self.subTest(paper=paper, pair=pair):
            self.assertIs(self.told(paper, pair, **instead), True)

    def no(self, paper, pair=None, **instead):
        with self.subTest(paper=paper, pair=pair):
            self.assertIs(self.told(paper, pair, **instead), False)


class None_(Walked):
    def test_a_low_above_its_high(self):
        empty = (span("j", 5, 4),)
        self.yes([("none", 1)], other=empty)
        self.yes([("none", 0)], one=empty)
        self.no([("none", 0)], other=empty)
        self.no([("none", 1)], one=empty)
        self.no([("none", 1)], other=(span("j", 5, 5),))
        self.no([("none", 0)])

    def test_a_name_that_is_none(self):
        empty = (span("i", 5, 4),)
        for k in (-1, -2, 2, 3, BIG, -BIG, -SIXTY_NINES):
            self.no([("none", k)], one=empty, other=empty)

    def test_deeper(self):
        loops = (span("i", 0, 1), span("j", 3, 2, 1), span("k", 0, 1, 2))
        place = at("a", (1, 1, 1, 0))
        for k in range(4):
            (self.yes if k == 1 else self.no)([("none", k)], one=loops, place=place)
            (self.yes if k == 2 else self.no)([("none", k)], other=loops, spot=place)


class Unlike(Walked):
    def test_tables(self):
        self.yes([("unlike",)], spot=at("b", (1, 0)))
        self.yes([("unlike",)], spot=at("b", (1, 0), (1, 0)))
        self.no([("unlike",)])

    def test_how_many_sums(self):
        self.yes([("unlike",)], spot=at("a", (1, 0), (1, 0)))
        self.yes([("unlike",)], place=at("a", (1, 0), (1, 0)))
        self.no([("unlike",)], place=at("a", (1, 0), (1, 0)), spot=at("a", (2, 0), (1, 1)))
        self.no([("unlike",)], spot=at("a", (1, 5)))

    def test_no_equations_then(self):
        # The first condition is the one at 0 then, and no equation is there to be ruled out.
        spot = at("b", (1, 100))
        self.no([("rest", 0)], spot=spot)
        self.no([("bound", 0)], spot=spot)
        parts = [("split", 0, 4), ("unlike",), ("unlike",)]
        self.yes(parts, spot=spot)


class Rest(Walked):
    def test_weights(self):
        even, odd = at("a", (2, 0)), at("a", (4, 7))
        self.yes([("rest", 0)], place=even, spot=odd)
        self.no([("rest", 0)], place=even, spot=at("a", (4, 6)))
        self.no([("rest", 0)], place=even, spot=at("a", (3, 7)))
        self.yes([("rest", 0)], place=at("a", (0, 3)), spot=at("a", (0, 4)))
        self.no([("rest", 0)], place=at("a", (0, 3)), spot=at("a", (0, 3)))

    def test_the_second_equation(self):
        place, spot = at("a", (1, 0), (6, 0)), at("a", (1, 0), (9, 1))
        self.no([("rest", 0)], place=place, spot=spot)
        self.yes([("rest", 1)], place=place, spot=spot)

    def test_an_equation_that_is_none(self):
        place, spot = at("a", (2, 0), (2, 0)), at("a", (2, 1), (2, 1))
        self.yes([("rest", 0)], place=place, spot=spot)
        self.yes([("rest", 1)], place=place, spot=spot)
        for e in (-1, -2, 2, 3, BIG, -SIXTY_NINES):
            self.no([("rest", e)], place=place, spot=spot)
        self.no([("rest", 1)], place=at("a", (2, 0)), spot=at("a", (2, 1)))

    def test_fixed_names_are_put_in(self):
        # 3i = 6j + 3: i is odd. With i fixed at 4 it is 12 = 6j + 3.
        place, spot = at("a", (3, 0)), at("a", (6, 3))
        self.no([("rest", 0)], place=place, spot=spot)
        self.no([("rest", 0)], one=(span("i", 3, 3),), place=place, spot=spot)
        self.yes([("rest", 0)], one=(span("i", 4, 4),), place=place, spot=spot)
        self.no([("rest", 0)], one=(span("i", 4, 5),), place=place, spot=spot)
        # Both fixed: nothing is left, and the number isn't 0.
        self.yes([("rest", 0)], one=(span("i", 4, 4),), other=(span("j", 2, 2),), place=place, spot=spot)
        self.no([("rest", 0)], one=(span("i", 5, 5),), other=(span("j", 2, 2),), place=place, spot=spot)
        # Fixed at 0: the weight is left out all the same.
        self.yes([("rest", 0)], one=(span("i", 0, 0),), place=at("a", (1, 0)), spot=at("a", (2, 1)))

    def test_a_low_above_its_high_is_left_in(self):
        place, spot = at("a", (3, 0)), at("a", (6, 3))
        # 3i is still there: nothing is ruled out, neither by the low nor by the high.
        self.no([("rest", 0)], one=(span("i", 4, 2),), place=place, spot=spot)
        self.no([("rest", 0)], one=(span("i", 5, 4),), place=place, spot=spot)
        self.yes([("rest", 0)], one=(span("i", 5, 4),), place=at("a", (3, 1)), spot=spot)

    def test_in_a_box_of_a_split(self):
        place, spot = at("a", (2, 0), (0, 0)), at("a", (0, 3), (0, 0))
        one, other = (span("i", 0, 1),), (span("j", 0, 9),)
        self.yes([("rest", 0)], one=one, other=other, place=place, spot=spot)
        spot = at("a", (4, 0), (1, 5))
        self.no([("split", 0, 0), ("rest", 0), ("rest", 0)], one=one, other=other, place=place, spot=spot)
        self.yes(
            [("split", 0, 0), ("bound", 1), ("rest", 0)], one=one, other=other, place=place, spot=spot,
        )


class Bound(Walked):
    def test_equations(self):
        self.yes([("bound", 0)], spot=at("a", (1, 10)))
        self.no([("bound", 0)], spot=at("a", (1, 9)))
        self.yes([("bound", 0)], spot=at("a", (1, -10)))
        self.no([("bound", 0)], spot=at("a", (1, -9)))
        self.yes([("bound", 0)], spot=at("a", (-1, -1)))
        self.no([("bound", 0)], spot=at("a", (-1, 0)))

    def test_the_second_equation(self):
        place, spot = at("a", (1, 0), (1, 0)), at("a", (1, 0), (1, 10))
        self.no([("bound", 0)], place=place, spot=spot)
        self.yes([("bound", 1)], place=place, spot=spot)
        for k in range(2, 6):
            self.no([("bound", k)], place=place, spot=spot)

    def test_conditions(self):
        # j from i + 1 to 3, for i from 0 on: its low's condition is j - i - 1, its high's 3 - j.
        loops = (span("i", 0, 9), ("j", ((1, (1, 1)),), ((1, (0, 3)),)))
        place = at("a", (1, 0, 0))
        low, high = 1 + 2, 1 + 3
        self.no([("bound", low)], one=loops, place=place)
        self.no([("bound", high)], one=loops, place=place)
        # Where i is 3 or more, j - i - 1 is below 0; without an equation it is told one lower.
        unlike = at("b", (1, 0))
        self.yes([("split", 0, 2), ("unlike",), ("bound", low - 1)], one=loops, place=place, spot=unlike)
        self.no([("split", 0, 1), ("unlike",), ("bound", low - 1)], one=loops, place=place, spot=unlike)
        self.no([("split", 0, 2), ("unlike",), ("bound", high - 1)], one=loops, place=place, spot=unlike)
        self.no([("split", 0, 2), ("unlike",), ("bound", low)], one=loops, place=place, spot=unlike)

    def test_a_condition_of_the_other_loops(self):
        loops = (span("i", 0, 9), ("j", ((1, (1, 1)),), ((1, (0, 3)),)))
        spot, unlike = at("a", (1, 0, 0)), at("b", (1, 0))
        parts = [("split", 1, 2), ("unlike",), ("bound", 2 + 2)]
        self.yes(parts, other=loops, spot=spot, place=unlike)
        self.no([("split", 1, 1)] + parts[1:], other=loops, spot=spot, place=unlike)

    def test_a_condition_is_not_an_equation(self):
        # j from 0 to 9 keeps the end j >= i - 20 by far: the condition is above 0, and that shows nothing.
        loops = (span("i", 0, 9), ("j", ((1, (0, 0)), (1, (1, -20))), ((1, (0, 9)), (1, (1, 20)))))
        for k in range(9):
            self.no([("bound", k)], one=loops, place=at("a", (1, 0, 0)))
        # A low above its high: i - 5 is at most -1, where the high is put in, and 4 - i, where the low is.
        self.yes([("bound", 1)], one=(span("i", 5, 4),))
        self.yes([("bound", 2)], one=(span("i", 5, 4),))
        self.no([("bound", 1)], one=(span("i", 5, 5),))
        self.no([("bound", 2)], one=(span("i", 5, 5),))

    def test_an_equation_with_a_low_above_its_high(self):
        # i from 4 to 2, j = 0: the most of i is told with 2, the least with 4.
        one, other = (span("i", 4, 2),), (span("j", 0, 0),)
        self.yes([("bound", 0)], one=one, other=other)
        self.yes([("bound", 0)], one=one, other=other, spot=at("a", (1, 3)))
        self.yes([("bound", 0)], one=one, other=other, spot=at("a", (1, 5)))
        self.no([("bound", 0)], one=(span("i", 3, 3),), other=other, spot=at("a", (1, 3)))

    def test_one_that_is_none(self):
        spot = at("a", (1, 10))
        for k in (-1, -4, -5, -6, 5, 6, BIG, -SIXTY_NINES):
            self.no([("bound", k)], spot=spot)
        # Neither the last condition nor the last equation is told from the end.
        empty = (span("j", 5, 4),)
        for k in (-1, -2, -3, -4):
            self.no([("bound", k)], one=empty, other=empty, place=at("b", (1, 0)))
        self.yes([("bound", 0)], one=empty, other=empty, place=at("b", (1, 0)))
        self.yes([("bound", 3)], one=empty, other=empty, place=at("b", (1, 0)))
        self.no([("bound", 4)], one=empty, other=empty, place=at("b", (1, 0)))


class Split(Walked):
    def test_ends(self):
        spot = at("b", (1, 0))
        for low, high in ((0, 9), (-7, -3), (BIG, BIG + 2), (2, 3)):
            one = (span("i", low, high),)
            parts = [("unlike",), ("unlike",)]
            self.yes([("split", 0, low)] + parts, one=one, spot=spot)
            self.yes([("split", 0, high - 1)] + parts, one=one, spot=spot)
            self.no([("split", 0, high)] + parts, one=one, spot=spot)
            self.no([("split", 0, low - 1)] + parts, one=one, spot=spot)
            self.no([("split", 0, high + 1)] + parts, one=one, spot=spot)

    def test_a_fixed_name_and_an_empty_one(self):
        spot, parts = at("b", (1, 0)), [("unlike",), ("unlike",)]
        self.no([("split", 0, 4)] + parts, one=(span("i", 4, 4),), spot=spot)
        for where in (1, 2, 3, 4):
            self.no([("split", 0, where)] + parts, one=(span("i", 4, 1),), spot=spot)

    def test_a_name_that_is_none(self):
        spot, parts = at("b", (1, 0)), [("unlike",), ("unlike",)]
        self.yes([("split", 1, 4)] + parts, spot=spot)
        for k in (-1, -2, 2, BIG, -SIXTY_NINES):
            self.no([("split", k, 4)] + parts, spot=spot)

    def test_the_lower_box_is_taken_first(self):
        done, other = ("bound", 0), (span("j", 10, 19),)
        self.yes([("split", 0, 4), done, ("split", 0, 8), done, done], other=other)
        self.no([("split", 0, 4), ("split", 0, 8), done, done, done], other=other)
        self.yes([("split", 0, 4), ("split", 0, 3), done, done, done], other=other)

    def test_the_boxes_that_are_laid(self):
        spot = at("b", (1, 0))
        done = ("unlike",)
        # The lower box is from 0 to 4, the upper one from 5 to 9.
        self.yes([("split", 0, 4), ("split", 0, 3), done, done, ("split", 0, 8), done, done], spot=spot)
        self.no([("split", 0, 4), ("split", 0, 4), done, done, done], spot=spot)
        self.yes([("split", 0, 4), done, ("split", 0, 5), done, done], spot=spot)
        self.no([("split", 0, 4), done, ("split", 0, 4), done, done], spot=spot)
        # The other name stays as it was in both.
        self.yes([("split", 0, 4), ("split", 1, 0), done, done, ("split", 1, 8), done, done], spot=spot)
        # The box that was laid last is taken first, also where others wait below it.
        self.yes([("split", 0, 4), ("split", 1, 4), ("split", 1, 3), done, done, ("split", 1, 5), done, done, done],
                 spot=spot)
        self.no([("split", 0, 4), ("split", 1, 4), ("split", 0, 5), done, done, done, done], spot=spot)


class FoundAndLater(Walked):
    one = (span("i", 0, 1),)
    other = (span("j", 0, 1),)
    spot = at("a", (1, 1))
    # i = j + 1: the only pair is (1, 0).
    pair = ((1,), (0,))
    paper = [
        ("split", 0, 0), ("split", 1, 0), ("bound", 0), ("bound", 0), ("split", 1, 0), ("found",), ("later",),
    ]

    def test_a_pair(self):
        self.yes(self.paper, self.pair)

    def test_none(self):
        self.no(self.paper, None)
        self.no([("found",)], None)
        self.no([("later",)], None)
        # All else of it is for anybody: without a pair the last box of i = 1, j = 0 can't be ruled out.
        self.no(self.paper[:-2] + [("bound", 0), ("bound", 0)], None)

    def test_found_just_there(self):
        for where in (2, 3, 6):
            self.no(self.paper[:where] + [("found",)] + self.paper[where + 1:], self.pair)
        # One name fixed isn't enough, nor is a box around it.
        self.no([("found",)], self.pair)
        self.no([("split", 0, 0), ("bound", 0), ("found",)], self.pair)
        single = {"one": (span("i", 1, 1),), "other": (span("j", 0, 0),)}
        self.yes([("found",)], self.pair, **single)
        self.no([("found",)], self.pair, one=(span("i", 1, 1),))
        self.no([("found",)], self.pair, other=(span("j", 0, 0),))

    def test_later_just_behind(self):
        one, other, spot = (span("i", 0, 9),), (span("j", 0, 9),), at("b", (1, 0))
        place = at("b", (1, 0))
        ask = {"one": one, "other": other, "place": place, "spot": spot}
        pair = ((0,), (0,))
        # All lows of the first box are the pair itself: that isn't behind it.
        self.no([("later",)], pair, **ask)
        fixed = [("split", 0, 0), ("split", 1, 0), ("found",), ("later",), ("later",)]
        self.yes(fixed, pair, **ask)
        self.no([("split", 0, 0), ("later",), ("later",)], pair, **ask)
        # For a pair that is greater: what comes ahead isn't later, what comes behind is.
        second = ((1,), (1,))
        self.no(fixed, second, **ask)
        self.no([("later",)], second, **ask)
        self.no([("split", 0, 1), ("later",), ("later",)], second, **ask)

    def test_later_by_the_first_name_that_tells(self):
        # Lows (1, 0) come behind (0, 5), lows (0, 5) don't, lows (0, 6) do.
        one, other = (span("i", 0, 1),), (span("j", 5, 6),)
        place = spot = at("a", (0, 0))
        ask = {"one": one, "other": other, "place": place, "spot": spot}
        pair = ((0,), (5,))
        self.yes([("split", 0, 0), ("split", 1, 5), ("found",), ("later",), ("later",)], pair, **ask)
        self.yes([("split", 1, 5), ("split", 0, 0), ("found",), ("later",), ("later",)], pair, **ask)

    def test_a_part_that_is_later_may_be_shown_otherwise(self):
        self.yes(self.paper[:-1] + [("bound", 0)], self.pair)

    def test_a_pair_that_is_no_turn(self):
        wide = {"one": (span("i", 0, 1),), "other": (span("j", 0, 1),)}
        for pair in (((2,), (1,)), ((0,), (-1,)), ((BIG,), (BIG - 1,))):
            self.no(self.paper, pair, **wide)
            self.no([("found",)], pair, **wide)
            self.no([("later",)], pair, **wide)
        # Lows above the pair's values: all comes behind, but the pair isn't there.
        self.no([("later",)], ((-1,), (-2,)))
        self.no([], ((-1,), (-2,)))

    def test_one_of_both_is_no_turn(self):
        one, other = (span("i", 5, 9),), (span("j", 0, 9),)
        ask = {"one": one, "other": other, "place": self.place, "spot": at("a", (1, 0))}
        self.no([("later",)], ((4,), (4,)), **ask)
        turned = {"one": other, "other": one, "place": self.place, "spot": at("a", (1, 0))}
        self.no([("later",)], ((-1,), (-1,)), **turned)

    def test_an_inner_value_that_is_none(self):
        # j is from i to 9: (0, 0) is a turn, (3, 2) lies in the box but is none.
        one = (span("i", 0, 9), ("j", ((1, (1, 0)),), ((1, (0, 9)),)))
        other = (span("k", 2, 2),)
        place, spot = at("a", (0, 1, 0)), at("a", (1, 0))
        good = [("split", 0, 0), ("split", 1, 1), ("bound", 0), ("split", 1, 2), ("found",), ("later",), ("later",)]
        ask = {"one": one, "other": other, "place": place, "spot": spot}
        self.yes(good, ((0, 2), (2,)), **ask)
        self.no(good, ((3, 2), (2,)), **ask)

    def test_a_pair_that_does_not_meet(self):
        self.no(self.paper, ((1,), (1,)))
        self.no(self.paper, ((0,), (0,)))
        self.no([("found",)], ((1,), (1,)), one=(span("i", 1, 1),), other=(span("j", 1, 1),))
        single = {"one": (span("i", 1, 1),), "other": (span("j", 1, 1),)}
        self.no([("found",)], ((1,), (1,)), spot=at("b", (1, 0)), **single)
        self.no([("found",)], ((1,), (1,)), spot=at("a", (1, 0), (1, 0)), **single)
        self.no([("unlike",)], ((1,), (1,)), spot=at("b", (1, 0)), **single)
        self.yes([("unlike",)], None, spot=at("b", (1, 0)), **single)
        self.no([("bound", 0)], ((1,), (1,)), **single)
        self.yes([("bound", 0)], None, **single)

    def test_a_pair_that_is_not_the_first(self):
        # (0, 0) and (1, 1) both meet; for the second one the first box isn't later.
        ask = {"one": (span("i", 0, 1),), "other": (span("j", 0, 1),), "spot": at("a", (1, 0))}
        first = [("split", 0, 0), ("split", 1, 0), ("found",), ("later",), ("later",)]
        self.yes(first, ((0,), (0,)), **ask)
        self.no(first, ((1,), (1,)), **ask)
        second = [
            ("split", 0, 0), ("split", 1, 0), ("bound", 0), ("bound", 0), ("split", 1, 0), ("bound", 0), ("found",),
        ]
        self.no(second, ((1,), (1,)), **ask)
        second[2] = ("later",)
        self.no(second, ((1,), (1,)), **ask)

    def test_a_paper_for_none_is_not_one_for_a_pair(self):
        # A pair may be told with a paper in which it is never found, where each box is later; none such here.
        self.no(self.paper[:5] + [("bound", 0), ("later",)], self.pair)


class Whole(Walked):
    spot = at("b", (1, 0))

    def test_the_empty_paper(self):
        self.no([])
        self.no([], ((0,), (0,)), spot=self.place)

    def test_too_many_and_too_few(self):
        done = ("unlike",)
        self.yes([done])
        self.no([done, done])
        self.no([("split", 0, 4), done])
        self.yes([("split", 0, 4), done, done])
        self.no([("split", 0, 4), done, done, done])
        self.no([("split", 0, 4), done, done, ("split", 0, 4)])
        self.no([("split", 0, 4)])
        self.no([done, ("split", 0, 4)])

    def test_a_part_that_does_not_hold_in_the_middle(self):
        done = ("unlike",)
        self.no([("split", 0, 4), ("none", 0), done])
        self.no([("split", 0, 4), done, ("none", 0)])
        self.no([("none", 0)])

    def test_six_hundred_parts(self):
        # i from 0 to 299: 299 splits, 300 leaves, and one split more of j would be too many.
        one = (span("i", 0, 299),)
        low_first = [part for k in range(299) for part in (("split", 0, k), ("unlike",))] + [("unlike",)]
        self.assertEqual(len(low_first), 599)
        self.yes(low_first, one=one)
        self.no(low_first[:-1], one=one)
        self.no(low_first[1:], one=one)
        self.no(low_first + [("unlike",)], one=one)
        high_first = [("split", 0, 298 - k) for k in range(299)] + [("unlike",)] * 300
        self.yes(high_first, one=one)

    def test_great_numbers(self):
        one = (span("i", -SIXTY_NINES, SIXTY_NINES),)
        other = (("j", ((SIXTY_MIXED, (-SIXTY_NINES,)),), ((1, (SIXTY_NINES,)),)),)
        place, spot = at("a", (SIXTY_NINES - 1, 0)), at("a", (2 * SIXTY_MIXED, 1))
        self.yes([("rest", 0)], one=one, other=other, place=place, spot=spot)
        self.yes(
            [("split", 0, -SIXTY_NINES), ("rest", 0), ("rest", 0)],
            one=one, other=other, place=place, spot=spot,
        )
        far = at("a", (1, 2 * SIXTY_NINES + 1))
        self.yes([("bound", 0)], one=one, other=one, place=at("a", (1, 0)), spot=at("a", (1, 3 * SIXTY_NINES)))
        self.no([("bound", 0)], one=one, other=one, place=at("a", (1, 0)), spot=at("a", (1, 2 * SIXTY_NINES)))
        self.yes([("bound", 0)], one=one, other=one, place=at("a", (1, 0)), spot=far)


class ByHand(unittest.TestCase):
    """Papers of the finder, also changed a little, walked by another hand."""

    def changed(self, draw, paper, pair):
        """The paper, changed at one place or several, and the pair or another one."""
        paper = list(paper)
        for again in range(draw.upto(0, 2)):
            where = draw.upto(0, len(paper) - 1) if paper else 0
            deed = draw.upto(0, 5)
            if deed == 0 and paper:
                del paper[where]
            elif deed == 1 and paper:
                paper.insert(where, paper[where])
            elif deed == 2 and len(paper) > 1:
                where = max(where, 1)
                paper[where - 1], paper[where] = paper[where], paper[where - 1]
            elif deed == 3 and paper:
                paper[where] = (paper[where][0],) + tuple(number + draw.upto(-1, 1) for number in paper[where][1:])
            elif paper:
                paper[where] = draw.source.choice((
                    ("split", draw.upto(-1, 3), draw.upto(-3, 4)), ("none", draw.upto(-1, 4)), ("unlike",),
                    ("rest", draw.upto(-1, 2)), ("bound", draw.upto(-1, 9)), ("found",), ("later",),
                ))
        deed = draw.upto(0, 5)
        if pair is not None and deed == 0:
            pair = None
        if pair is not None and deed == 1:
            pair = (tuple(value + draw.upto(-1, 1) for value in pair[0]), pair[1])
        return paper, pair

    def test_by_hand(self):
        draw = Draw(200, SMALL)
        seen = {True: 0, False: 0}
        for again in range(700):
            one, other = drawn_loops(draw)[:2], drawn_loops(draw)[:2]
            place, spot = draw.place(len(one), ("a",)), draw.place(len(other), ("a", "a", "b"))
            asked = Asked(one, place, other, spot)
            self.assertEqual(equations_of(place, spot), asked.equations())
            try:
                pair, paper = touch(one, place, other, spot)
            except TooMany:
                continue
            self.assertIs(asked.holds(pair, paper), True)
            self.assertIs(holds(one, place, other, spot, pair, paper), True)
            for again_too in range(12):
                new, new_pair = self.changed(draw, paper, pair)
                kept = list(new)
                told = holds(one, place, other, spot, new_pair, new)
                self.assertIs(told, asked.holds(new_pair, new), (one, place, other, spot, new_pair, new))
                self.assertEqual(new, kept)
                seen[told] += 1
                if told:
                    self.assertEqual(new_pair, first_meeting(one, place, other, spot))
        self.assertGreater(min(seen.values()), 100)


class Kept(unittest.TestCase):
    def test_a_told_list_may_be_changed(self):
        place, spot = at("a", (1, 0), (2, 0)), at("a", (1, 0), (3, 1))
        one, other = (span("i", 0, 3),), (span("j", 0, 3),)
        for ask in (lambda: equations_of(place, spot), lambda: conditions_of(one, other),
                    lambda: equations_of(place, at("b", (1, 0)))):
            first = ask()
            kept = list(first)
            first.append("more")
            self.assertEqual(ask(), kept)
            first.clear()
            self.assertEqual(ask(), kept)
            self.assertIsNot(ask(), ask())

    def test_asked_twice(self):
        one, other = (span("i", 0, 3),), (span("j", 0, 3),)
        place = at("a", (1, 0))
        paper = [("split", 0, 0), ("split", 1, 0), ("found",), ("later",), ("later",)]
        for again in range(3):
            self.assertIs(holds(one, place, other, place, ((0,), (0,)), paper), True)
            self.assertIs(holds(one, place, other, place, None, paper), False)
            self.assertIs(holds(one, place, other, place, ((0,), (0,)), paper[:-1]), False)
        self.assertEqual(paper, [("split", 0, 0), ("split", 1, 0), ("found",), ("later",), ("later",)])
        self.assertEqual(turns_by_hand(one), [(0,), (1,), (2,), (3,)])

    def test_quick_with_many_parts(self):
        one = (span("i", 0, BIG),)
        paper = [part for k in range(299) for part in (("split", 0, k), ("unlike",))] + [("unlike",)]
        with at_once():
            self.assertIs(holds(one, at("a", I), one, at("b", I), None, paper), True)


if __name__ == "__main__":
    unittest.main()
