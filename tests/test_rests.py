"""Point [4], second half: where a sum misses 0; and [5], as far as it needs it."""

import itertools
import unittest

from loopturn.rests import misses

SIXTY_NINES = 10 ** 60 - 1
# A prime number of thirty figures, so that only its own multiples are divided by it.
PRIME = 10 ** 29 + 319


def ruled_out(total):
    """The words of [4], gone through number by number; for small sums only."""
    weights, number = total[:-1], total[-1]
    if all(weight == 0 for weight in weights):
        return number != 0
    greatest = max(abs(weight) for weight in weights)
    return any(
        all(weight % by == 0 for weight in weights) and number % by != 0
        for by in range(2, greatest + 1)
    )


def reaches_0(total, values):
    """Whether the sum's worth [5] is 0 at a turn of these values."""
    weights, number = total[:-1], total[-1]
    return any(
        sum(weight * value for weight, value in zip(weights, turn)) + number == 0
        for turn in itertools.product(values, repeat=len(weights))
    )


class Checked(unittest.TestCase):
    def check(self, total, told):
        with self.subTest(total=total):
            self.assertIs(misses(total), told)


class Told(Checked):
    def test_weights_that_share_a_divisor(self):
        self.check((2, 4, 1), True)
        self.check((2, 4, 6), False)
        self.check((2, 4, 0), False)
        self.check((6, 10, 14), False)
        self.check((6, 10, 15), True)
        self.check((12, 18, 3), True)
        self.check((12, 18, 2), True)
        self.check((12, 18, 6), False)
        self.check((9, 6, 15, 7), True)
        self.check((9, 6, 15, 21), False)

    def test_the_greatest_divisor_decides(self):
        # 2 divides weights and number; only 4 shows that the sum misses 0.
        self.check((4, 8, 2), True)
        self.check((8, 4, 12), False)

    def test_weights_that_share_none(self):
        for number in range(-7, 8):
            self.check((2, 3, number), False)
            self.check((6, 10, 15, number), False)
            self.check((4, 1, number), False)
            self.check((-1, number), False)

    def test_one_weight(self):
        self.check((1, 5), False)
        self.check((3, 5), True)
        self.check((3, 6), False)
        self.check((3, 0), False)
        self.check((3, 1), True)

    def test_weights_below_0(self):
        self.check((-2, 3), True)
        self.check((-2, 4), False)
        self.check((-4, 6, 3), True)
        self.check((-4, -6, 8), False)
        self.check((-3, 2, 1), False)

    def test_weights_of_0_among_others(self):
        self.check((0, 4, 6), True)
        self.check((0, 4, 8), False)
        self.check((4, 0, 6), True)
        self.check((4, 0, 8), False)
        self.check((0, 1, 0, 9), False)
        self.check((6, 0, 0, -9, 2), True)

    def test_all_weights_0(self):
        for many in range(1, 5):
            zeros = (0,) * many
            self.check(zeros + (0,), False)
            for number in (-SIXTY_NINES, -2, -1, 1, 2, 30, SIXTY_NINES):
                self.check(zeros + (number,), True)

    def test_no_weight(self):
        self.check((0,), False)
        for number in (-SIXTY_NINES, -2, -1, 1, 2, 30, SIXTY_NINES):
            self.check((number,), True)

    def test_numbers_below_0(self):
        self.check((2, 4, -1), True)
        self.check((2, 4, -6), False)
        self.check((3, -5), True)
        self.check((-3, -6), False)
        self.check((2, 3, -1), False)


class GoneThrough(unittest.TestCase):
    def test_by_the_words(self):
        for many in range(4):
            for weights in itertools.product(range(-6, 7), repeat=many):
                for number in range(-7, 8):
                    total = weights + (number,)
                    self.assertIs(misses(total), ruled_out(total), total)

    def test_just_where_no_turn_reaches_0(self):
        # With weights and numbers this small, a turn that reaches 0 lies within these values if there is any.
        values = range(-18, 19)
        for many in range(3):
            for weights in itertools.product(range(-4, 5), repeat=many):
                for number in range(-6, 7):
                    total = weights + (number,)
                    self.assertIs(misses(total), not reaches_0(total, values), total)


class Great(Checked):
    def test_a_great_divisor(self):
        self.check((PRIME * 6, PRIME * 10, PRIME * 4), False)
        self.check((PRIME * 6, PRIME * 10, PRIME * 3), True)
        self.check((PRIME * 6, -PRIME * 10, PRIME * 4 + 1), True)
        self.check((PRIME * (10 ** 30 - 1), PRIME), True)
        self.check((PRIME * (10 ** 30 - 1), PRIME * (10 ** 30), PRIME), False)

    def test_one_weight_of_sixty_figures(self):
        self.check((SIXTY_NINES, SIXTY_NINES), False)
        self.check((SIXTY_NINES, -SIXTY_NINES), False)
        self.check((-SIXTY_NINES, 0), False)
        self.check((SIXTY_NINES, SIXTY_NINES - 1), True)
        self.check((SIXTY_NINES, 1), True)

    def test_neighbours_share_none(self):
        self.check((SIXTY_NINES, SIXTY_NINES - 1, 10 ** 59 + 3), False)

    def test_the_slowest_weights(self):
        # Neighbours in this row make the search for a divisor take the most steps for their size.
        one, other = 1, 1
        while one + other < 10 ** 59:
            one, other = other, one + other
        self.check((one, other, SIXTY_NINES), False)
        self.check((3 * one, 3 * other, SIXTY_NINES), False)
        self.check((3 * one, 3 * other, SIXTY_NINES - 1), True)

    def test_three_hundred_parts(self):
        weights = tuple(6 * (10 ** 58 + k) for k in range(299))
        self.check(weights + (12,), False)
        self.check(weights + (9,), True)
        self.check(weights[:-1] + (1, 9), False)


class Kept(unittest.TestCase):
    def test_what_is_handed_in_stays_and_is_answered_alike(self):
        for parts in ([2, 4, 1], [2, -4, 6], [0, 0, 0], [0, 3], [5], [0], [SIXTY_NINES, 0, -7]):
            total = tuple(parts)
            first = misses(total)
            self.assertEqual(total, tuple(parts))
            misses((3, 1))
            misses((0,))
            self.assertIs(misses(total), first)
            self.assertIs(misses(tuple(parts)), first)
            self.assertEqual(total, tuple(parts))


if __name__ == "__main__":
    unittest.main()
