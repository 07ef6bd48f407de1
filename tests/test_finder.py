"""[21] and [22]: the first two turns that meet, told with a paper, and where two rows meet first."""

import copy
import unittest

from loopturn.errors import LoopError, TooMany
from loopturn.finder import meeting, touch
from loopturn.papers import holds
from samples import SIXTY_MIXED, SIXTY_NINES, SMALL, Draw, at, at_once, row_of, span
from walks import Asked, box_by_hand, cell_by_hand, first_meeting, points_of, turns_by_hand

BIG = 10 ** 18


def drawn_loops(draw, most=3):
    return tuple(draw.bounded_loop(name, outer) for outer, name in enumerate("ijk"[:draw.upto(1, most)]))


def nest(*pairs):
    """Loops from numbers to numbers."""
    return tuple(span(name, low, high, outer) for outer, (name, (low, high)) in enumerate(zip("ijk", pairs)))


def names_of(many):
    """A sum for each name alone."""
    return [tuple(int(k == name) for k in range(many)) + (0,) for name in range(many)]


class Told(unittest.TestCase):
    def ask(self, one, place, other, spot):
        """What touch tells, with all that is promised of any answer."""
        with at_once():
            told = touch(one, place, other, spot)
        self.assertIs(type(told), tuple)
        pair, paper = told
        self.assertIs(type(paper), list)
        self.assertLessEqual(len(paper), 600)
        self.assertEqual({type(part) for part in paper}, {tuple})
        self.assertIs(holds(one, place, other, spot, pair, paper), True)
        asked = Asked(one, place, other, spot)
        self.assertIs(asked.holds(pair, paper), True)
        if asked.lone_parts(asked.box):
            self.assertIsNone(pair)
            self.assertEqual(len(paper), 1)
        if pair is not None:
            self.assertEqual([type(turn) for turn in (pair,) + pair], [tuple] * 3)
            self.assertEqual({type(value) for turn in pair for value in turn}, {int})
        return pair, paper

    def check(self, one, place, other, spot, pair, parts=None):
        with self.subTest(one=one, place=place, other=other, spot=spot):
            told, paper = self.ask(one, place, other, spot)
            self.assertEqual(told, pair)
            if parts is not None:
                self.assertEqual(len(paper), parts)

    def refused(self, one, place, other, spot):
        with at_once(), self.assertRaises(TooMany) as caught:
            touch(one, place, other, spot)
        self.assertIsInstance(caught.exception, LoopError)


class Pairs(Told):
    def test_one_name_each(self):
        one, other = nest((0, 9)), nest((0, 9))
        i = at("a", (1, 0))
        self.check(one, i, other, i, ((0,), (0,)))
        self.check(one, i, other, at("a", (1, 4)), ((4,), (0,)))
        self.check(one, i, other, at("a", (1, -4)), ((0,), (4,)))
        self.check(one, i, other, at("a", (-1, 9)), ((0,), (9,)))
        self.check(one, at("a", (3, 0)), other, at("a", (5, 1)), ((2,), (1,)))
        self.check(one, at("a", (0, 5)), other, i, ((0,), (5,)))

    def test_the_least_first_and_then_the_least_second(self):
        # i + j = 5 and k = 0: (0, 5); among the second ones of i = 0 the least.
        one, other = nest((0, 5), (0, 5)), nest((0, 3), (0, 3))
        self.check(one, at("a", (1, 1, 0)), other, at("a", (0, 0, 5)), ((0, 5), (0, 0)))
        self.check(one, at("a", (1, 1, 0)), other, at("a", (1, 1, 5)), ((0, 5), (0, 0)))
        self.check(one, at("a", (0, 0, 4)), other, at("a", (1, 1, 0)), ((0, 0), (1, 3)))
        self.check(one, at("a", (-1, 0, 7)), other, at("a", (2, 1, 0)), ((0, 0), (2, 3)))

    def test_two_sums(self):
        one = nest((0, 9), (0, 9))
        self.check(one, at("a", (1, 0, 0), (0, 1, 0)), one, at("a", (1, 0, -1), (0, 1, 0)), ((0, 0), (1, 0)))
        self.check(one, at("a", (1, 0, 0), (0, 1, 0)), one, at("a", (0, 1, 2), (1, 0, 3)), ((2, 3), (0, 0)))
        self.check(one, at("a", (1, 0, 0), (1, 0, 1)), one, at("a", (1, 0, 0), (0, 1, 0)), ((0, 0), (0, 1)))

    def test_aslant(self):
        # j from i + 1 to 9: a[i, j] and a[j, i] of two turns never meet; with j from i they do.
        strict = (span("i", 0, 4), ("j", ((1, (1, 1)),), ((1, (0, 5)),)))
        wide = (span("i", 0, 4), ("j", ((1, (1, 0)),), ((1, (0, 5)),)))
        place, spot = at("a", (1, 0, 0), (0, 1, 0)), at("a", (0, 1, 0), (1, 0, 0))
        self.check(strict, place, strict, spot, None)
        self.check(wide, place, wide, spot, ((0, 0), (0, 0)))
        self.check(strict, place, wide, spot, None)

    def test_a_turn_may_be_missing_at_the_box(self):
        # The box of j is from 0 to 9, but at i = 0 there is no value below 9.
        one = (span("i", 0, 3), ("j", ((1, (-3, 9)),), ((1, (0, 9)),)))
        other = nest((0, 0))
        self.check(one, at("a", (0, 1, 0)), other, at("a", (0, 4)), ((2, 4), (0,)))
        self.check(one, at("a", (0, 1, 0)), other, at("a", (0, 0)), ((3, 0), (0,)))

    def test_divisors(self):
        one = (("i", ((3, (7,)),), ((2, (19,)),)),)
        self.check(one, at("a", (1, 0)), one, at("a", (2, 0)), ((6,), (3,)))
        self.check(one, at("a", (1, 0)), one, at("a", (4, 0)), None)

    def test_values_below_0(self):
        one, other = nest((-9, -2)), nest((-40, 4))
        self.check(one, at("a", (3, 1)), other, at("a", (2, 0)), ((-9,), (-13,)))
        self.check(one, at("a", (-1, 0)), other, at("a", (1, 0)), ((-4,), (4,)))

    def test_a_table_of_unlike_sums(self):
        one = nest((0, 9))
        self.check(one, at("a", (1, 0)), one, at("b", (1, 0)), None, 1)
        self.check(one, at("a", (1, 0)), one, at("a", (1, 0), (1, 0)), None, 1)

    def test_by_going_through_all(self):
        draw = Draw(210, SMALL)
        told = {True: 0, False: 0}
        for again in range(1500):
            one, other = drawn_loops(draw), drawn_loops(draw)
            place, spot = draw.place(len(one), ("a",)), draw.place(len(other), ("a", "a", "a", "b"))
            box = box_by_hand(one) + box_by_hand(other)
            try:
                pair, paper = self.ask(one, place, other, spot)
            except TooMany:
                self.assertGreater(points_of(box), 300)
                continue
            self.assertEqual(pair, first_meeting(one, place, other, spot), (one, place, other, spot))
            told[pair is None] += 1
        self.assertGreater(min(told.values()), 15)

    def test_the_same_loops_twice(self):
        draw = Draw(211, SMALL)
        for again in range(300):
            one = drawn_loops(draw, 2)
            place = draw.place(len(one), ("a",))
            spot = (place[0], tuple(total[:-1] + (draw.upto(-2, 2),) for total in place[1]))
            self.assertEqual(self.ask(one, place, one, spot)[0], first_meeting(one, place, one, spot))


class OnePart(Told):
    """Where one part alone shows that no two meet, there is just one, whatever the count."""

    def test_a_low_above_its_high(self):
        wide, place = nest((0, BIG)), at("a", (1, 0))
        self.check(nest((5, 4)), place, wide, place, None, 1)
        self.check(wide, place, nest((5, 4)), place, None, 1)
        self.check(wide, place, nest((BIG, -BIG)), place, None, 1)
        three, inner = nest((0, BIG), (0, BIG), (1, 0)), at("a", (1, 1, 1, 0))
        self.check(three, inner, wide, place, None, 1)
        self.check(wide, place, three, inner, None, 1)

    def test_rests(self):
        wide = nest((-BIG, BIG), (-BIG, BIG), (-BIG, BIG))
        self.check(wide, at("a", (2, 4, 6, 0)), wide, at("a", (8, 2, 4, 1)), None, 1)
        self.check(wide, at("a", (1, 0, 0, 0), (3, 0, 6, 0)), wide, at("a", (1, 0, 0, 0), (0, 9, 3, 2)), None, 1)
        self.check(wide, at("a", (0, 0, 0, 1)), wide, at("a", (0, 0, 0, 2)), None, 1)
        # Just with the fixed name put in: 3i = 6j + 3 with i = 4.
        self.check(nest((4, 4)), at("a", (3, 0)), nest((-BIG, BIG)), at("a", (6, 3)), None, 1)

    def test_bounds(self):
        one, other = nest((0, BIG)), nest((BIG + 1, 2 * BIG))
        i = at("a", (1, 0))
        self.check(one, i, other, i, None, 1)
        self.check(other, i, one, i, None, 1)
        both = nest((0, BIG), (0, BIG))
        self.check(both, at("a", (1, 0, 0), (0, 1, 0)), both, at("a", (1, 0, 0), (0, 1, BIG + 1)), None, 1)

    def test_a_condition(self):
        # Below the box of the loops outside, i + j is at most 4, but k is from 3i + 9 on: low above high.
        deep = ("k", ((1, (3, 0, 9)),), ((1, (0, 0, 8)), (1, (1, 0, BIG))))
        one = (span("i", 0, BIG), span("j", 0, BIG, 1), deep)
        self.check(one, at("a", (1, 1, 1, 0)), one, at("a", (1, 1, 1, 0)), None, 1)

    def test_unlike(self):
        wide, i = nest((-SIXTY_NINES, SIXTY_NINES)), at("a", (1, 0))
        self.check(wide, i, wide, at("b", (1, 0)), None, 1)
        self.check(wide, i, wide, at("a", (1, 0), (1, 0)), None, 1)

    def test_sixty_figures(self):
        wide = nest((-SIXTY_NINES, SIXTY_NINES))
        even = (SIXTY_NINES - 1, 0)
        self.check(wide, at("a", even), wide, at("a", (SIXTY_MIXED, 1)), None, 1)

    def test_just_not_ruled_out(self):
        one, other = nest((0, BIG)), nest((BIG, 2 * BIG))
        i = at("a", (1, 0))
        self.check(one, i, other, i, ((BIG,), (BIG,)))
        self.check(other, i, one, i, ((BIG,), (BIG,)))


class FewPoints(Told):
    """Never refused where the first box has at most three hundred points."""

    def test_no_two_meet_but_neither_rests_nor_bounds_show_it(self):
        # i = k and j = l, i + j = k + l + 1 could never be; told by two sums i + j and i - j of unlike parity.
        for high in range(0, 17):
            one, other = nest((0, high)), nest((0, high))
            place, spot = at("a", (1, 0), (1, 0)), at("a", (1, 0), (-1, high + 1 - high % 2))
            self.assertLessEqual(points_of(box_by_hand(one) * 2), 300)
            self.check(one, place, other, spot, None)

    def test_three_hundred_points(self):
        shapes = (
            ((1, 300), (5, 5)), ((5, 5), (1, 300)), ((0, 149), (0, 1)), ((0, 1), (0, 149)), ((0, 19), (0, 14)),
            ((BIG, BIG + 299), (0, 0)), ((-300, -1), (7, 7)),
        )
        draw = Draw(212, SMALL)
        for first, second in shapes:
            one, other = nest(first), nest(second)
            self.assertEqual(points_of(box_by_hand(one) + box_by_hand(other)), 300)
            for again in range(25):
                place, spot = at("a", draw.total(1), draw.total(1)), at("a", draw.total(1), draw.total(1))
                pair, paper = self.ask(one, place, other, spot)
                self.assertEqual(pair, first_meeting(one, place, other, spot))

    def test_six_names(self):
        # 3 * 2 * 5 * 2 * 5 * 1 = 300 points.
        one, other = nest((0, 2), (0, 1), (0, 4)), nest((0, 1), (0, 4), (3, 3))
        draw = Draw(213, SMALL)
        for again in range(150):
            place = at("a", draw.total(3), draw.total(3))
            spot = at("a", draw.total(3), draw.total(3))
            pair, paper = self.ask(one, place, other, spot)
            self.assertEqual(pair, first_meeting(one, place, other, spot))

    def test_the_last_pair_alone_meets(self):
        one, other = nest((0, 14)), nest((0, 19))
        self.check(one, at("a", (1, 0), (0, 0)), other, at("a", (0, 14), (1, -19)), ((14,), (19,)))
        self.check(one, at("a", (1, 0)), other, at("a", (-1, 33)), ((14,), (19,)))

    def test_ends_that_no_turn_keeps(self):
        # For no i is there a j: 2j = 2i + 1. The box has values, but no end's most shows it.
        no_half = ("j", ((2, (2, 1)),), ((2, (2, 1)),))
        one = (span("i", 0, 15), no_half)
        other = nest((0, 0))
        self.assertLessEqual(points_of(box_by_hand(one) + box_by_hand(other)), 300)
        self.check(one, at("a", (1, 0, 0)), other, at("a", (0, 3)), None)
        self.check(one, at("a", (0, 0, 3)), other, at("a", (0, 3)), None)

    def test_by_going_through_all(self):
        draw = Draw(214, SMALL)
        seen = 0
        for again in range(1500):
            one, other = drawn_loops(draw), drawn_loops(draw)
            if points_of(box_by_hand(one) + box_by_hand(other)) > 300:
                continue
            place, spot = draw.place(len(one), ("a",)), draw.place(len(other), ("a",))
            self.assertEqual(self.ask(one, place, other, spot)[0], first_meeting(one, place, other, spot))
            seen += 1
        self.assertGreater(seen, 100)


class ManyPoints(Told):
    """Told, or refused with TooMany, and that at once."""

    def told_or_refused(self, one, place, other, spot, pair):
        try:
            told, paper = self.ask(one, place, other, spot)
        except TooMany:
            return False
        self.assertEqual(told, pair)
        return True

    def test_begun_far_off(self):
        told = []
        for many in (1, 2, 3):
            one, other = nest(*[(0, BIG)] * many), nest(*[(BIG, 2 * BIG)] * many)
            sums = names_of(many)[:2]
            first, second = (BIG,) * len(sums) + (0,) * (many - len(sums)), (BIG,) * many
            told.append(self.told_or_refused(one, at("a", *sums), other, at("a", *sums), (first, second)))
        self.assertTrue(told[0])

    def test_none_of_very_many(self):
        # i = j and i + j odd: no two meet, and each box around i = j needs a part.
        one = nest((0, BIG))
        self.refused(one, at("a", (1, 0), (1, 0)), one, at("a", (1, 0), (-1, BIG + 1)))

    def test_growing(self):
        # The same with ever more values: told at first, then ever refused, never with more than 600 parts.
        told = []
        for high in (5, 16, 50, 100, *range(140, 156), 200, 400, 1000):
            one = nest((0, high))
            place, spot = at("a", (1, 0), (1, 0)), at("a", (1, 0), (-1, high + 1 - high % 2))
            told.append(self.told_or_refused(one, place, one, spot, None))
        self.assertTrue(told[0])

    def test_aslant(self):
        wide = (span("i", 0, BIG), ("j", ((1, (1, 0)),), ((1, (1, 1)),)))
        i_and_j = at("a", (1, 0, 0), (0, 1, 0))
        self.told_or_refused(wide, i_and_j, wide, at("a", (0, 1, 0), (1, 0, 0)), ((0, 0), (0, 0)))
        self.told_or_refused(wide, i_and_j, wide, at("a", (0, 1, 5), (1, 0, 5)), ((5, 5), (0, 0)))

    def test_sixty_figures(self):
        wide = nest((-SIXTY_NINES, SIXTY_NINES))
        self.told_or_refused(wide, at("a", (1, 0)), wide, at("a", (1, 0)), ((-SIXTY_NINES,), (-SIXTY_NINES,)))
        self.told_or_refused(
            wide, at("a", (1, SIXTY_MIXED)), wide, at("a", (1, 0)),
            ((-SIXTY_NINES,), (SIXTY_MIXED - SIXTY_NINES,)),
        )

    def test_many_ends(self):
        ends = tuple((1, (k % 3 - 1, -k)) for k in range(150))
        many = (span("i", 0, BIG), ("j", ends, tuple((1, (weight % 3, k)) for weight, (k, total) in enumerate(ends))))
        with at_once():
            try:
                pair, paper = touch(many, at("a", (1, 0, 0), (1, 1, 0)), many, at("a", (1, 0, 0), (1, 1, 1)))
            except TooMany:
                return
        self.assertIs(holds(many, at("a", (1, 0, 0), (1, 1, 0)), many, at("a", (1, 0, 0), (1, 1, 1)), pair, paper),
                      True)


def touches(row, turn, other, there):
    """Whether two rows at two turns touch, by their cells."""
    def cells(one, when):
        places = [place for weight, places in one[1][1] for place in places]
        return cell_by_hand(one[0], when), [cell_by_hand(place, when) for place in places]

    written, read = cells(row, turn)
    other_written, other_read = cells(other, there)
    return written == other_written or written in other_read or other_written in read


def first_touch(program, here, there):
    """Where two rows meet first, by going through all turns."""
    loops, rows = program[here[0]]
    other_loops, other_rows = program[there[0]]
    for turn in turns_by_hand(loops):
        for other in turns_by_hand(other_loops):
            if touches(rows[here[1]], turn, other_rows[there[1]], other):
                return (turn, other)
    return None


class Meeting(unittest.TestCase):
    def check(self, program, here, there, pair):
        kept = copy.deepcopy(program)
        with at_once():
            told = meeting(program, here, there)
        self.assertEqual(program, kept)
        self.assertEqual(told, pair)
        if pair is not None:
            self.assertEqual([type(turn) for turn in (told,) + told], [tuple] * 3)

    def one_row(self, *rows, high=9):
        return [(nest((0, high)), rows)]

    def test_written_by_both(self):
        program = self.one_row(row_of(at("a", (1, 0)), (0, 0)), row_of(at("a", (1, 3)), (0, 0)))
        self.check(program, (0, 0), (0, 1), ((3,), (0,)))
        self.check(program, (0, 1), (0, 0), ((0,), (3,)))

    def test_written_and_read(self):
        reader = row_of(at("b", (1, 0)), (0, 0), (1, (at("a", (1, 4)),)))
        program = self.one_row(row_of(at("a", (1, 0)), (0, 0)), reader)
        self.check(program, (0, 0), (0, 1), ((4,), (0,)))
        self.check(program, (0, 1), (0, 0), ((0,), (4,)))

    def test_read_by_both_is_no_touch(self):
        both = (1, (at("c", (1, 0)),))
        program = self.one_row(row_of(at("a", (1, 0)), (0, 0), both), row_of(at("b", (1, 0)), (0, 0), both))
        self.check(program, (0, 0), (0, 1), None)
        self.check(program, (0, 1), (0, 0), None)

    def test_weight_0_and_the_second_factor(self):
        far = row_of(at("b", (1, 0)), (0, 0), (5, (at("c", (1, 0)),)), (0, (at("d", (1, 0)), at("a", (1, 2)))))
        program = self.one_row(row_of(at("a", (1, 0)), (0, 0)), far)
        self.check(program, (0, 0), (0, 1), ((2,), (0,)))
        self.check(program, (0, 1), (0, 0), ((0,), (2,)))

    def test_the_first_of_several(self):
        # By the writes first at (3, 0), by one read at (0, 7), by the other at (0, 5).
        far = row_of(at("a", (1, 3)), (0, 0), (1, (at("a", (1, -7)),)), (1, (at("a", (1, -5)),)))
        program = self.one_row(row_of(at("a", (1, 0)), (0, 0)), far)
        self.check(program, (0, 0), (0, 1), ((0,), (5,)))
        self.check(program, (0, 1), (0, 0), ((0,), (3,)))

    def test_one_row_twice(self):
        # A row and itself at the same turn, too.
        self.check(self.one_row(row_of(at("a", (1, 0)), (0, 0))), (0, 0), (0, 0), ((0,), (0,)))
        # Each turn writes a cell of its own, and reads the one of the next turn: (0, 0) is still the first.
        forward = row_of(at("a", (1, 0)), (0, 0), (1, (at("a", (1, 1)),)))
        self.check(self.one_row(forward), (0, 0), (0, 0), ((0,), (0,)))
        self.check([(nest((3, 2)), (forward,))], (0, 0), (0, 0), None)

    def test_unlike_numbers_of_sums(self):
        program = self.one_row(row_of(at("a", (1, 0)), (0, 0)), row_of(at("a", (1, 0), (0, 0)), (0, 0)))
        self.check(program, (0, 0), (0, 1), None)
        self.check(program, (0, 1), (0, 1), ((0,), (0,)))

    def test_two_sums(self):
        loops = nest((0, 3), (0, 3))
        step = row_of(at("a", (1, 0, 0), (0, 1, 0)), (0, 0, 0))
        reader = row_of(at("b", (0, 0, 0)), (0, 0, 0), (1, (at("a", (1, 0, 1), (0, 1, 2)),)))
        program = [(loops, (step, reader))]
        self.check(program, (0, 0), (0, 1), ((1, 2), (0, 0)))
        self.check(program, (0, 1), (0, 0), ((0, 0), (1, 2)))

    def test_two_pieces(self):
        program = [
            (nest((0, 9)), (row_of(at("a", (1, 0)), (0, 0)), row_of(at("c", (1, 0)), (0, 0)))),
            (nest((4, 20), (1, 2)), (row_of(at("b", (1, 0, 0)), (0, 0, 0), (1, (at("a", (1, 1, 0)),))),)),
        ]
        self.check(program, (0, 0), (1, 0), ((5,), (4, 1)))
        self.check(program, (1, 0), (0, 0), ((4, 1), (5,)))
        self.check(program, (0, 1), (1, 0), None)
        self.check(program, (0, 0), (0, 1), None)

    def test_very_many_values_beside(self):
        row = row_of(at("a", (1, 0)), (0, 0))
        deep = row_of(at("a", (1, 1, 1, 0)), (0, 0, 0, 0))
        beside = (nest((0, BIG), (0, BIG), (0, BIG)), (deep,))
        program = [beside, (nest((0, 16)), (row, row_of(at("a", (1, 16)), (0, 0)))), beside]
        self.check(program, (1, 0), (1, 1), ((16,), (0,)))
        self.check(program, (1, 1), (1, 0), ((0,), (16,)))

    def test_three_hundred_points_are_never_refused(self):
        # 17 * 17 = 289 points; no two turns meet by i = j with i + j odd, nor in any other pair of places.
        rows = [
            row_of(at("a", (1, 0), (1, 0)), (0, 0), *[(1, (at("b", (k, 0), (k, 0)),)) for k in range(1, 5)]),
            row_of(at("a", (1, 0), (-1, 17)), (0, 0), *[(1, (at("b", (k, 0), (-k, 17 * k)),)) for k in range(1, 5)]),
        ]
        program = [(nest((0, 16)), tuple(rows))]
        self.check(program, (0, 0), (0, 1), None)
        self.check(program, (0, 1), (0, 0), None)
        wide = [(nest((1, 300)), (rows[0],)), (nest((7, 7)), (rows[1],))]
        self.check(wide, (0, 0), (1, 0), first_touch(wide, (0, 0), (1, 0)))

    def test_many_points(self):
        loops = nest((0, BIG), (0, BIG))
        writer = row_of(at("a", (1, 0, 0), (0, 1, 0)), (0, 0, 0))
        reader = row_of(at("b", (1, 0, 0)), (0, 0, 0), (1, (at("a", (2, 0, 0), (0, 1, 3)),)))
        hard = row_of(at("a", (1, 0, 0), (1, 0, 0)), (0, 0, 0))
        program = [(loops, (writer, reader, hard))]
        for here in range(3):
            for there in range(3):
                with at_once():
                    try:
                        told = meeting(program, (0, here), (0, there))
                    except TooMany:
                        continue
                if (here, there) == (0, 1):
                    self.assertEqual(told, ((0, 3), (0, 0)))
                if (here, there) in ((0, 0), (1, 1), (2, 2), (0, 2), (2, 0)):
                    self.assertEqual(told, ((0, 0), (0, 0)))

    def test_refused_beyond(self):
        loops = nest((0, BIG))
        rows = (row_of(at("a", (1, 0), (1, 0)), (0, 0)), row_of(at("a", (1, 0), (-1, BIG + 1)), (0, 0)))
        with at_once(), self.assertRaises(TooMany):
            meeting([(loops, rows)], (0, 0), (0, 1))

    def test_by_going_through_all(self):
        draw = Draw(220, SMALL)
        seen = {True: 0, False: 0}
        for again in range(250):
            program = [draw.small_piece() for piece in range(draw.upto(1, 2))]
            here, there = [
                (piece, draw.upto(0, len(program[piece][1]) - 1))
                for piece in (draw.upto(0, len(program) - 1) for row in range(2))
            ]
            box = box_by_hand(program[here[0]][0]) + box_by_hand(program[there[0]][0])
            kept = copy.deepcopy(program)
            try:
                with at_once():
                    told = meeting(program, here, there)
            except TooMany:
                self.assertGreater(points_of(box), 300)
                continue
            self.assertEqual(program, kept)
            self.assertEqual(told, first_touch(program, here, there), (program, here, there))
            seen[told is None] += 1
        self.assertGreater(min(seen.values()), 10)


class Kept(unittest.TestCase):
    def test_a_told_paper_may_be_changed(self):
        one, i = nest((0, 9)), at("a", (1, 0))
        for spot in (at("a", (1, 4)), at("a", (1, 10)), at("b", (1, 0))):
            pair, paper = touch(one, i, one, spot)
            kept = list(paper)
            paper.append("more")
            paper[0] = None
            self.assertEqual(touch(one, i, one, spot), (pair, kept))
            paper.clear()
            self.assertEqual(touch(one, i, one, spot), (pair, kept))

    def test_the_same_behind_a_refusal(self):
        one, i, wide = nest((0, 9)), at("a", (1, 0)), nest((0, BIG))
        told = touch(one, i, one, i)
        for again in range(2):
            with self.assertRaises(TooMany):
                touch(wide, at("a", (1, 0), (1, 0)), wide, at("a", (1, 0), (-1, BIG + 1)))
            self.assertEqual(touch(one, i, one, i), told)


if __name__ == "__main__":
    unittest.main()
