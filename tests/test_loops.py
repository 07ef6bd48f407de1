"""Points [8], [9], [10]: ends, loops and their values; turns, count, TooMany; the box of loops."""

import itertools
import random
import unittest

from loopturn.errors import LoopError, TooMany
from loopturn.loops import box_of, count_of, first_of, is_turn, last_of, turns_of
from samples import SIXTY_NINES, at_once, span

HUGE = 10 ** 50


def has_value(loop, turn, value):
    """The words of [8]: by times the value held against the worth of each end."""
    name, lows, highs = loop

    def reached(total):
        return sum(weight * outer for weight, outer in zip(total[:-1], turn)) + total[-1]

    return all(by * value >= reached(total) for by, total in lows) and all(
        by * value <= reached(total) for by, total in highs
    )


def all_turns(loops, values):
    """The words of [9], gone through value by value."""
    turns = [()]
    count = 0
    for loop in loops:
        turns = [turn + (value,) for turn in turns for value in values if has_value(loop, turn, value)]
        count += len(turns)
    return turns, count


def drawn_loops(many, seed):
    """Loops whose values lie from -6 to 6, several ends, divisors and weights; the same ones each time."""
    source = random.Random(seed)
    for number in range(many):
        loops = []
        for outer in range(number % 3 + 1):
            fixed = (0,) * outer
            lows, highs = [(1, fixed + (-source.randint(0, 6),))], [(1, fixed + (source.randint(0, 6),))]
            for at in range(source.randint(0, 2)):
                lows.append(drawn_end(source, outer))
            for at in range(source.randint(0, 2)):
                highs.append(drawn_end(source, outer))
            source.shuffle(lows)
            source.shuffle(highs)
            loops.append(("ijk"[outer], tuple(lows), tuple(highs)))
        yield tuple(loops)


def drawn_end(source, outer):
    weights = tuple(source.randint(-3, 3) for at in range(outer))
    return (source.randint(1, 4), weights + (source.randint(-9, 9),))


class Ends(unittest.TestCase):
    def check(self, loop, turn, first, last):
        with self.subTest(loop=loop, turn=turn):
            told = (first_of(loop, turn), last_of(loop, turn))
            self.assertEqual([type(number) for number in told], [int, int])
            self.assertEqual(told, (first, last))

    def test_one_end_each(self):
        self.check(span("i", 0, 9), (), 0, 9)
        self.check(span("i", -9, -4), (), -9, -4)
        self.check(span("i", 4, 4), (), 4, 4)

    def test_without_values(self):
        self.check(span("i", 5, 4), (), 5, 4)
        self.check(span("i", HUGE, -HUGE), (), HUGE, -HUGE)
        # No whole number times 3 is from 4 to 5.
        self.check(("i", ((3, (4,)),), ((3, (5,)),)), (), 2, 1)

    def test_divisors(self):
        self.check(("i", ((2, (7,)),), ((2, (19,)),)), (), 4, 9)
        self.check(("i", ((2, (-7,)),), ((2, (-1,)),)), (), -3, -1)
        self.check(("i", ((3, (6,)),), ((3, (12,)),)), (), 2, 4)
        self.check(("i", ((SIXTY_NINES, (1,)),), ((SIXTY_NINES, (SIXTY_NINES - 1,)),)), (), 1, 0)

    def test_several_ends(self):
        lows = ((1, (0,)), (2, (9,)), (3, (-4,)))
        highs = ((1, (20,)), (4, (35,)), (2, (18,)))
        self.check(("i", lows, highs), (), 5, 8)
        self.check(("i", lows[::-1], highs[::-1]), (), 5, 8)
        self.check(("i", lows + lows, highs + highs), (), 5, 8)

    def test_weights_for_outer_loops(self):
        loop = ("k", ((1, (1, -1, 2)), (2, (0, 3, 1))), ((1, (2, 1, 0)), (3, (-1, 0, 50))))
        self.check(loop, (4, 1), 5, 9)
        self.check(loop, (10, 7), 11, 13)
        self.check(loop, (-4, 3), 5, -5)

    def test_rounded_ahead_of_choosing(self):
        # 7 by 2 is 4 rounded up, above 3; 9 by 4 is 2 rounded down, below 3.
        self.check(("i", ((1, (3,)), (2, (7,))), ((1, (3,)), (4, (9,)))), (), 4, 2)

    def test_sixty_figures(self):
        loop = ("j", ((1, (SIXTY_NINES, 1)),), ((7, (-SIXTY_NINES, 3)),))
        self.check(loop, (SIXTY_NINES,), SIXTY_NINES ** 2 + 1, (3 - SIXTY_NINES ** 2) // 7)

    def test_values_by_the_words(self):
        for loops in drawn_loops(300, 1):
            loop = loops[-1]
            for turn in itertools.product((-7, -1, 0, 4), repeat=len(loops) - 1):
                first, last = first_of(loop, turn), last_of(loop, turn)
                for value in range(-12, 13):
                    self.assertIs(first <= value <= last, has_value(loop, turn, value))


class Turns(unittest.TestCase):
    def check(self, loops, turns, count):
        with self.subTest(loops=loops):
            told = turns_of(loops)
            self.assertIs(type(told), list)
            self.assertEqual({type(turn) for turn in told} | {tuple}, {tuple})
            self.assertEqual({type(value) for turn in told for value in turn} | {int}, {int})
            self.assertEqual(told, turns)
            self.assertIs(type(count_of(loops)), int)
            self.assertEqual(count_of(loops), count)

    def test_one_loop(self):
        self.check((span("i", -1, 2),), [(-1,), (0,), (1,), (2,)], 4)
        self.check((span("i", 3, 3),), [(3,)], 1)
        self.check((span("i", 3, 2),), [], 0)

    def test_two_loops(self):
        self.check((span("i", 0, 1), span("j", 7, 8, 1)), [(0, 7), (0, 8), (1, 7), (1, 8)], 6)
        aslant = ("j", ((1, (1, 0)),), ((1, (0, 2)),))
        self.check((span("i", 0, 3), aslant), [(0, 0), (0, 1), (0, 2), (1, 1), (1, 2), (2, 2)], 10)

    def test_the_example_of_the_text(self):
        loops = (span("i", 0, 9), ("j", ((1, (1, 0)), (1, (0, 2))), ((1, (2, 4)), (2, (0, 19)))))
        self.check(loops, *all_turns(loops, range(-5, 40)))

    def test_three_loops(self):
        inner = ("k", ((1, (1, 0, 0)),), ((1, (0, 1, 0)),))
        loops = (span("i", 0, 1), span("j", 0, 1, 1), inner)
        self.check(loops, [(0, 0, 0), (0, 1, 0), (0, 1, 1), (1, 1, 1)], 2 + 4 + 4)

    def test_values_below_0_rise(self):
        self.check((span("i", -2, -1), span("j", -4, -3, 1)), [(-2, -4), (-2, -3), (-1, -4), (-1, -3)], 6)

    def test_great_values(self):
        self.check((span("i", HUGE, HUGE + 2),), [(HUGE,), (HUGE + 1,), (HUGE + 2,)], 3)
        inner = ("j", ((1, (SIXTY_NINES, 0)),), ((1, (SIXTY_NINES, 1)),))
        self.check(
            (span("i", -1, 0), inner),
            [(-1, -SIXTY_NINES), (-1, 1 - SIXTY_NINES), (0, 0), (0, 1)],
            6,
        )

    def test_an_outer_loop_without_values(self):
        self.check((span("i", 1, 0), span("j", 0, HUGE, 1)), [], 0)
        self.check((span("i", 1, 0), span("j", 0, HUGE, 1), span("k", -HUGE, HUGE, 2)), [], 0)

    def test_an_empty_loop_within(self):
        self.check((span("i", 0, 4), span("j", 1, 0, 1)), [], 5)
        self.check((span("i", 0, 4), span("j", 1, 0, 1), span("k", 0, HUGE, 2)), [], 5)
        self.check((span("i", 0, 4), span("j", 0, 1, 1), span("k", 1, -HUGE, 2)), [], 15)

    def test_empty_for_some_outer_values_only(self):
        # For i = 0 and 2 there are none; the deep negative span must not lower the count.
        inner = ("j", ((1, (0, 1)), (1, (50, -49))), ((1, (0, 2)), (1, (-30, 32))))
        self.check((span("i", 0, 2), inner), [(0, 1), (0, 2), (1, 1), (1, 2)], 7)

    def test_by_the_words(self):
        for loops in drawn_loops(600, 2):
            turns, count = all_turns(loops, range(-6, 7))
            if count > 1000:
                continue
            self.assertEqual(turns, sorted(turns))
            self.check(loops, turns, count)


class IsTurn(unittest.TestCase):
    def test_turns_and_those_beside_them(self):
        for loops in drawn_loops(120, 3):
            turns = set(all_turns(loops, range(-6, 7))[0])
            for turn in itertools.product(range(-7, 8), repeat=len(loops)):
                self.assertIs(is_turn(loops, turn), turn in turns)

    def test_whatever_the_count(self):
        loops = (span("i", -HUGE, HUGE), ("j", ((1, (1, 0)),), ((1, (2, 0)),)))
        self.assertIs(is_turn(loops, (HUGE, HUGE)), True)
        self.assertIs(is_turn(loops, (HUGE, 2 * HUGE)), True)
        self.assertIs(is_turn(loops, (HUGE, 2 * HUGE + 1)), False)
        self.assertIs(is_turn(loops, (HUGE + 1, HUGE + 1)), False)
        self.assertIs(is_turn(loops, (-1, -1)), False)
        self.assertIs(is_turn(loops, (0, 0)), True)

    def test_whatever_the_size(self):
        loops = (span("i", -SIXTY_NINES, SIXTY_NINES), span("j", 1, 0, 1))
        for value in (-SIXTY_NINES, 0, SIXTY_NINES):
            self.assertIs(is_turn(loops, (value, SIXTY_NINES)), False)
        self.assertIs(is_turn((span("i", -SIXTY_NINES, SIXTY_NINES),), (-SIXTY_NINES,)), True)
        self.assertIs(is_turn((span("i", -SIXTY_NINES + 1, SIXTY_NINES),), (-SIXTY_NINES,)), False)

    def test_the_outer_value_alone_rules_out(self):
        self.assertIs(is_turn((span("i", 0, 1), span("j", 0, 1, 1)), (2, 0)), False)
        self.assertIs(is_turn((span("i", 0, 1), span("j", 0, 1, 1)), (1, 1)), True)


class Counted(unittest.TestCase):
    """TooMany just where the count is above 1000."""

    def let_by(self, loops, count, turns):
        with self.subTest(loops=loops):
            with at_once():
                self.assertEqual(count_of(loops), count)
                self.assertEqual(len(turns_of(loops)), turns)

    def refused(self, *loops):
        for ask in (turns_of, count_of):
            with self.subTest(loops=loops, ask=ask.__name__):
                with at_once(), self.assertRaises(TooMany) as caught:
                    ask(loops)
                self.assertIsInstance(caught.exception, LoopError)

    def test_one_loop(self):
        self.let_by((span("i", 1, 999),), 999, 999)
        self.let_by((span("i", 1, 1000),), 1000, 1000)
        self.refused(span("i", 1, 1001))
        self.refused(span("i", 0, 1000))
        self.let_by((span("i", HUGE, HUGE + 999),), 1000, 1000)
        self.refused(span("i", HUGE, HUGE + 1000))

    def test_two_loops(self):
        # 27 + 27 * 36 = 999; 500 + 500 = 1000; 7 + 7 * 142 = 1001.
        self.let_by((span("i", 1, 27), span("j", 1, 36, 1)), 999, 972)
        self.let_by((span("i", 1, 500), span("j", 1, 1, 1)), 1000, 500)
        self.refused(span("i", 1, 7), span("j", 1, 142, 1))
        self.refused(span("i", 1, 501), span("j", 1, 1, 1))
        # 1000 turns, but the outer values count as well.
        self.refused(span("i", 1, 1), span("j", 1, 1000, 1))
        self.let_by((span("i", 1, 1), span("j", 1, 999, 1)), 1000, 999)

    def test_aslant(self):
        # 43 + 43 * 44 / 2 = 989; with one value more outside, 44 + 990 = 1034.
        aslant = ("j", ((1, (0, 1)),), ((1, (1, 0)),))
        self.let_by((span("i", 1, 43), aslant), 989, 946)
        self.refused(span("i", 1, 44), aslant)

    def test_three_loops(self):
        # 9 + 9 * 10 + 9 * 10 * 10 = 999; 1 + 1 + 998 = 1000; 1 + 1 + 999 = 1001.
        self.let_by((span("i", 1, 9), span("j", 1, 10, 1), span("k", 1, 10, 2)), 999, 900)
        self.let_by((span("i", 1, 1), span("j", 1, 1, 1), span("k", 1, 998, 2)), 1000, 998)
        self.refused(span("i", 1, 1), span("j", 1, 1, 1), span("k", 1, 999, 2))
        self.refused(span("i", 1, 10), span("j", 1, 10, 1), span("k", 1, 10, 2))

    def test_an_empty_loop_within(self):
        self.let_by((span("i", 1, 1000), span("j", 1, 0, 1)), 1000, 0)
        self.refused(span("i", 1, 1001), span("j", 1, 0, 1))
        self.refused(span("i", 1, HUGE), span("j", 1, 0, 1))
        self.let_by((span("i", 1, 500), span("j", 1, 1, 1), span("k", 1, 0, 2)), 1000, 0)
        self.refused(span("i", 1, 31), span("j", 1, 32, 1), span("k", 1, 0, 2))
        self.refused(span("i", 1, 2), span("j", 1, HUGE, 1), span("k", 1, -HUGE, 2))

    def test_an_outer_loop_without_values(self):
        self.let_by((span("i", 1, 0), span("j", 1, HUGE, 1)), 0, 0)
        self.let_by((span("i", HUGE, -HUGE), span("j", 1, HUGE, 1), span("k", 1, HUGE, 2)), 0, 0)

    def test_very_many_values_within(self):
        self.refused(span("i", 1, HUGE))
        self.refused(span("i", 1, 1), span("j", 1, HUGE, 1))
        self.refused(span("i", 1, 500), span("j", -HUGE, HUGE, 1), span("k", 1, HUGE, 2))
        self.refused(span("i", 1, 30), span("j", 1, 30, 1), span("k", 1, HUGE, 2))
        self.refused(span("i", -SIXTY_NINES, SIXTY_NINES))

    def test_many_for_the_last_outer_value_only(self):
        # For i from 1 to 9 there are none within, for i = 10 there are 10 ** 50.
        inner = ("j", ((1, (0, 1)),), ((1, (HUGE, -9 * HUGE)),))
        self.refused(span("i", 1, 10), inner)
        self.let_by((span("i", 1, 9), inner), 9, 0)

    def test_divided_down(self):
        self.let_by((("i", ((HUGE, (1,)),), ((HUGE, (1000 * HUGE + 1,)),)),), 1000, 1000)
        self.refused(("i", ((HUGE, (1,)),), ((HUGE, (1001 * HUGE,)),)))


class Box(unittest.TestCase):
    def check(self, loops, pairs):
        with self.subTest(loops=loops):
            told = box_of(loops)
            self.assertIs(type(told), list)
            self.assertEqual([type(pair) for pair in told], [tuple] * len(loops))
            self.assertEqual([type(end) for pair in told for end in pair], [int, int] * len(loops))
            self.assertEqual(told, pairs)

    def test_one_loop(self):
        self.check((span("i", 0, 9),), [(0, 9)])
        self.check((("i", ((1, (0,)), (2, (7,))), ((3, (19,)), (1, (8,)))),), [(4, 6)])

    def test_loops_within(self):
        loops = (span("i", 0, 9), ("j", ((1, (1, 0)), (1, (0, 2))), ((1, (2, 4)), (2, (0, 19)))))
        self.check(loops, [(0, 9), (2, 9)])
        aslant = ("j", ((1, (-2, 1)),), ((3, (-1, 2)),))
        self.check((span("i", -3, 5), aslant), [(-3, 5), (-9, 1)])
        inner = ("k", ((2, (1, -1, 0)),), ((1, (1, 1, 0)),))
        self.check((span("i", -3, 5), aslant, inner), [(-3, 5), (-9, 1), (-2, 6)])

    def test_a_low_above_its_high(self):
        self.check((span("i", 4, 1),), [(4, 1)])
        inner = ("j", ((1, (1, 0)),), ((1, (2, 0)),))
        # The least of i is then told with 4, the most of 2i with 1.
        self.check((span("i", 4, 1), inner), [(4, 1), (4, 2)])
        backwards = ("j", ((1, (-1, 0)),), ((1, (-2, 0)),))
        self.check((span("i", 4, 1), backwards), [(4, 1), (-1, -8)])
        self.check((span("i", 0, 3), span("j", 9, 2, 1)), [(0, 3), (9, 2)])

    def test_each_end_is_reckoned_by_itself(self):
        # The greatest low is chosen behind the rounding: 7 by 2 is 4.
        self.check((("i", ((1, (3,)), (2, (7,))), ((1, (5,)), (2, (9,)))),), [(4, 4)])
        inner = ("j", ((1, (1, 0)), (1, (-1, 3))), ((1, (1, 5)), (1, (-1, 9))))
        self.check((span("i", 0, 3), inner), [(0, 3), (0, 8)])

    def test_sixty_figures(self):
        inner = ("j", ((1, (-SIXTY_NINES, 0)),), ((7, (SIXTY_NINES, 1)),))
        self.check(
            (span("i", -HUGE, HUGE), inner),
            [(-HUGE, HUGE), (-HUGE * SIXTY_NINES, (HUGE * SIXTY_NINES + 1) // 7)],
        )

    def test_never_refused_for_its_count(self):
        self.check((span("i", 0, HUGE), span("j", 1, HUGE, 1)), [(0, HUGE), (1, HUGE)])

    def test_each_turn_lies_in_it(self):
        for loops in drawn_loops(600, 4):
            box = box_of(loops)
            turns = all_turns(loops, range(-6, 7))[0]
            for turn in turns:
                self.assertTrue(all(low <= value <= high for value, (low, high) in zip(turn, box)))
            if any(low > high for low, high in box):
                self.assertEqual(turns, [])

    def test_by_the_words(self):
        for loops in drawn_loops(300, 5):
            pairs = []
            for name, lows, highs in loops:
                least, most = [], []
                for by, total in lows:
                    ends = [pair[0] if weight > 0 else pair[1] for weight, pair in zip(total, pairs)]
                    reached = sum(weight * end for weight, end in zip(total, ends)) + total[-1]
                    least.append(-(-reached // by))
                for by, total in highs:
                    ends = [pair[1] if weight > 0 else pair[0] for weight, pair in zip(total, pairs)]
                    reached = sum(weight * end for weight, end in zip(total, ends)) + total[-1]
                    most.append(reached // by)
                pairs.append((max(least), min(most)))
            self.check(loops, pairs)


class Kept(unittest.TestCase):
    def test_a_told_list_may_be_changed(self):
        loops = (span("i", 0, 1), span("j", 0, 1, 1))
        for ask in (turns_of, box_of):
            first = ask(loops)
            kept = list(first)
            first.append("more")
            first[0] = None
            self.assertEqual(ask(loops), kept)
            self.assertIsNot(ask(loops), ask(loops))
            first.clear()
            self.assertEqual(ask(loops), kept)

    def test_an_empty_list_may_be_changed_too(self):
        loops = (span("i", 1, 0),)
        turns_of(loops).append("more")
        self.assertEqual(turns_of(loops), [])

    def test_the_same_behind_a_refusal(self):
        loops, many = (span("i", 0, 9), span("j", 0, 9, 1)), (span("i", 0, 9), span("j", 0, 99, 1))
        asked = (turns_of(loops), count_of(loops), box_of(loops))
        for again in range(2):
            for ask in (turns_of, count_of):
                with self.assertRaises(TooMany):
                    ask(many)
            self.assertEqual((turns_of(loops), count_of(loops), box_of(loops)), asked)

    def test_loops_stay(self):
        loops = (span("i", 0, 2), ("j", ((2, (1, 0)), (1, (0, -1))), ((1, (1, 3)),)))
        kept = (("i", ((1, (0,)),), ((1, (2,)),)), ("j", ((2, (1, 0)), (1, (0, -1))), ((1, (1, 3)),)))
        for ask in (turns_of, count_of, box_of):
            ask(loops)
        is_turn(loops, (0, 0))
        first_of(loops[1], (1,))
        last_of(loops[1], (1,))
        self.assertEqual(loops, kept)


if __name__ == "__main__":
    unittest.main()
