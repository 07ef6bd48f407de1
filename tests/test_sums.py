"""Points [5], [6], [7]: sums, their worth, what is made of them, and their least and most in a box."""

import itertools
import random
import unittest

from loopturn.sums import least, most, put_in, sum_plus, sum_times, swapped, widened, worth
from samples import SIXTY_MIXED, SIXTY_NINES

NUMBERS = (-SIXTY_NINES, -SIXTY_MIXED, -7, -2, -1, 0, 0, 1, 2, 3, 11, 10 ** 30 + 1, SIXTY_MIXED, SIXTY_NINES)


def drawn(many, seed):
    """Sums and turns over none to six names: pairs (sum, turn), the same ones each time."""
    source = random.Random(seed)
    for number in range(many):
        names = number % 7
        yield (
            tuple(source.choice(NUMBERS) for at in range(names + 1)),
            tuple(source.choice(NUMBERS) for at in range(names)),
        )


def by_hand(total, turn):
    """The words of [5], step by step."""
    told = total[len(turn)]
    for at in range(len(turn)):
        told += total[at] * turn[at]
    return told


class Checked(unittest.TestCase):
    def check_number(self, told, number):
        self.assertIs(type(told), int)
        self.assertEqual(told, number)

    def check_sum(self, told, total):
        self.assertIs(type(told), tuple)
        self.assertEqual([type(part) for part in told], [int] * len(total))
        self.assertEqual(told, total)


class Worth(Checked):
    def test_no_name(self):
        for number in NUMBERS:
            self.check_number(worth((number,), ()), number)

    def test_one_name(self):
        self.check_number(worth((3, 4), (5,)), 19)
        self.check_number(worth((-3, 4), (5,)), -11)
        self.check_number(worth((3, -4), (-5,)), -19)
        self.check_number(worth((0, -4), (5,)), -4)
        self.check_number(worth((3, 4), (0,)), 4)
        self.check_number(worth((1, 0), (-9,)), -9)

    def test_more_names(self):
        self.check_number(worth((2, -1, 3), (10, 7)), 16)
        self.check_number(worth((1, 10, 100, 1000), (1, 2, 3)), 1321)
        self.check_number(worth((0, 0, 0, 0), (1, 2, 3)), 0)
        self.check_number(worth((1, -1, 1, -1, 1, -1, 5), (1, 2, 3, 4, 5, 6)), 2)

    def test_sixty_figures(self):
        self.check_number(worth((SIXTY_NINES, 1), (SIXTY_NINES,)), (10 ** 60 - 1) ** 2 + 1)
        self.check_number(worth((SIXTY_NINES, -SIXTY_NINES, 1), (SIXTY_MIXED, SIXTY_MIXED)), 1)
        self.check_number(worth((SIXTY_NINES, -SIXTY_MIXED), (1,)), SIXTY_NINES - SIXTY_MIXED)

    def test_by_hand(self):
        for total, turn in drawn(700, 5):
            self.check_number(worth(total, turn), by_hand(total, turn))


class Added(Checked):
    def test_told(self):
        self.check_sum(sum_plus((4,), (-9,)), (-5,))
        self.check_sum(sum_plus((1, 2), (10, 20)), (11, 22))
        self.check_sum(sum_plus((1, -2, 3), (-1, 2, 4)), (0, 0, 7))
        self.check_sum(sum_plus((SIXTY_NINES, 0), (1, -SIXTY_NINES)), (10 ** 60, -SIXTY_NINES))

    def test_worth_of_sums_added(self):
        for (one, turn), (other, there) in zip(drawn(700, 1), drawn(700, 2)):
            told = sum_plus(one, other)
            self.check_sum(told, tuple(one[at] + other[at] for at in range(len(one))))
            self.check_number(worth(told, turn), by_hand(one, turn) + by_hand(other, turn))
            self.check_sum(sum_plus(other, one), told)


class TakenSoOften(Checked):
    def test_told(self):
        self.check_sum(sum_times(3, (4,)), (12,))
        self.check_sum(sum_times(-2, (1, 0, -5)), (-2, 0, 10))
        self.check_sum(sum_times(0, (1, 2, 3)), (0, 0, 0))
        self.check_sum(sum_times(1, (1, 2, 3)), (1, 2, 3))
        self.check_sum(sum_times(SIXTY_NINES, (SIXTY_NINES, 1)), (SIXTY_NINES ** 2, SIXTY_NINES))

    def test_worth_of_sums_taken_so_often(self):
        for (total, turn), number in zip(drawn(700, 3), itertools.cycle(NUMBERS)):
            told = sum_times(number, total)
            self.check_sum(told, tuple(part * number for part in total))
            self.check_number(worth(told, turn), number * by_hand(total, turn))


class PutIn(Checked):
    def test_told(self):
        # 2i + 3 with 5i - 1 for i.
        self.check_sum(put_in((2, 3), 0, (5, -1)), (10, 1))
        # 2i - j + 3 with i + 4j + 1 for j: the weight of i grows, that of j is the new one.
        self.check_sum(put_in((2, -1, 3), 1, (1, 4, 1)), (1, -4, 2))
        self.check_sum(put_in((2, -1, 3), 0, (0, 1, 0)), (0, 1, 3))
        self.check_sum(put_in((0, 7, 3), 0, (9, 9, 9)), (0, 7, 3))

    def test_the_name_itself_changes_nothing(self):
        for total, turn in drawn(300, 4):
            for at in range(len(turn)):
                itself = (0,) * at + (1,) + (0,) * (len(turn) - at)
                self.check_sum(put_in(total, at, itself), total)

    def test_worth_at_each_place(self):
        for (total, turn), (other, there) in zip(drawn(700, 6), drawn(700, 7)):
            for at in range(len(turn)):
                told = put_in(total, at, other)
                self.assertIs(type(told), tuple)
                self.assertEqual([type(part) for part in told], [int] * len(total))
                turned = turn[:at] + (by_hand(other, turn),) + turn[at + 1:]
                self.check_number(worth(told, turn), by_hand(total, turned))
                # A sum is known by its worths, so the parts are held against them as well.
                for name in range(len(turn)):
                    one = (0,) * name + (1,) + (0,) * (len(turn) - name - 1)
                    replaced = one[:at] + (by_hand(other, one),) + one[at + 1:]
                    self.check_number(by_hand(told, one), by_hand(total, replaced))


class Swapped(Checked):
    def test_told(self):
        self.check_sum(swapped((1, 2, 3), 0), (2, 1, 3))
        self.check_sum(swapped((1, 2, 3, 4), 0), (2, 1, 3, 4))
        self.check_sum(swapped((1, 2, 3, 4), 1), (1, 3, 2, 4))
        self.check_sum(swapped((1, 2, 3, 4, 5), 2), (1, 2, 4, 3, 5))

    def test_at_each_place_with_a_next_one_and_twice(self):
        for total, turn in drawn(700, 8):
            for at in range(len(turn) - 1):
                told = swapped(total, at)
                parts = list(total)
                parts[at], parts[at + 1] = parts[at + 1], parts[at]
                self.check_sum(told, tuple(parts))
                self.check_sum(swapped(told, at), total)
                values = list(turn)
                values[at], values[at + 1] = values[at + 1], values[at]
                self.check_number(worth(told, tuple(values)), by_hand(total, turn))


class Widened(Checked):
    def test_told(self):
        self.check_sum(widened((5,), 0), (0, 5))
        self.check_sum(widened((1, 5), 0), (0, 1, 5))
        self.check_sum(widened((1, 5), 1), (1, 0, 5))
        self.check_sum(widened((1, 2, 5), 1), (1, 0, 2, 5))
        self.check_sum(widened((1, 2, 5), 2), (1, 2, 0, 5))

    def test_at_each_place(self):
        for total, turn in drawn(700, 9):
            for at in range(len(turn) + 1):
                told = widened(total, at)
                parts = list(total)
                parts.insert(at, 0)
                self.check_sum(told, tuple(parts))
                for value in (-SIXTY_NINES, 0, 8):
                    self.check_number(worth(told, turn[:at] + (value,) + turn[at:]), by_hand(total, turn))


class LeastAndMost(Checked):
    def check(self, total, box, low, high):
        with self.subTest(total=total, box=box):
            self.check_number(least(total, box), low)
            self.check_number(most(total, box), high)

    def test_no_name(self):
        for number in NUMBERS:
            self.check((number,), [], number, number)

    def test_signs_of_weights(self):
        self.check((3, 1), [(2, 5)], 7, 16)
        self.check((-3, 1), [(2, 5)], -14, -5)
        self.check((0, 1), [(2, 5)], 1, 1)
        self.check((3, 1), [(-5, -2)], -14, -5)
        self.check((2, -1, 0, 10), [(0, 3), (-1, 4), (-9, 9)], 6, 17)

    def test_equal_ends(self):
        self.check((3, -4, 1), [(2, 2), (5, 5)], -13, -13)
        self.check((3, -4, 1), [(2, 2), (5, 6)], -17, -13)

    def test_a_low_above_its_high(self):
        self.check((3, 1), [(5, 2)], 16, 7)
        self.check((-3, 1), [(5, 2)], -5, -14)
        self.check((0, 1), [(5, 2)], 1, 1)
        self.check((3, -2, 1), [(5, 2), (0, 10)], -4, 7)

    def test_sixty_figures(self):
        self.check((SIXTY_NINES, -1), [(-SIXTY_NINES, SIXTY_NINES)], -SIXTY_NINES ** 2 - 1, SIXTY_NINES ** 2 - 1)
        self.check((-SIXTY_NINES, 1), [(-1, SIXTY_MIXED)], -SIXTY_NINES * SIXTY_MIXED + 1, SIXTY_NINES + 1)

    def test_by_the_words(self):
        source = random.Random(10)
        for total, turn in drawn(700, 11):
            box = [(value, value + source.choice(NUMBERS)) for value in turn]
            low = high = total[-1]
            for weight, pair in zip(total, box):
                low += weight * (pair[0] if weight > 0 else pair[1])
                high += weight * (pair[1] if weight > 0 else pair[0])
            self.check_number(least(total, box), low)
            self.check_number(most(total, box), high)

    def test_just_the_worths_of_the_turns_in_a_box(self):
        pairs = [(0, 0), (-2, 1), (1, 3)]
        for many in range(3):
            for total in itertools.product(range(-2, 3), repeat=many + 1):
                for box in itertools.product(pairs, repeat=many):
                    ranges = [range(low, high + 1) for low, high in box]
                    worths = [by_hand(total, turn) for turn in itertools.product(*ranges)]
                    self.check_number(least(total, list(box)), min(worths))
                    self.check_number(most(total, list(box)), max(worths))


class Kept(unittest.TestCase):
    def test_a_box_stays_and_the_same_is_told_again(self):
        total, box = (3, -2, 7), [(1, 4), (9, 2)]
        first = (least(total, box), most(total, box))
        self.assertEqual(box, [(1, 4), (9, 2)])
        least((1, 0), [(5, 6)])
        self.assertEqual((least(total, box), most(total, box)), first)
        self.assertEqual(total, (3, -2, 7))

    def test_what_is_told_hangs_on_what_is_handed_in_alone(self):
        asked = [
            lambda: worth((2, 3, 4), (5, 6)),
            lambda: sum_plus((1, 2), (3, 4)),
            lambda: sum_times(5, (6, 7)),
            lambda: put_in((1, 2, 3), 1, (4, 5, 6)),
            lambda: swapped((1, 2, 3), 0),
            lambda: widened((1, 2), 1),
        ]
        first = [ask() for ask in asked]
        self.assertEqual([ask() for ask in reversed(asked)], first[::-1])


if __name__ == "__main__":
    unittest.main()
