"""Point [4], first half: whole numbers rounded down and up by a divisor above 0."""

import unittest

from loopturn.rounding import down_by, up_by

SIXTY_NINES = 10 ** 60 - 1
SIXTY_LEAST = 10 ** 59
SIXTY_MIXED = 314159265358979323846264338327950288419716939937510582097494


class Rounded(unittest.TestCase):
    def check(self, top, by):
        """Hold both roundings against the words of [4]: a neighbour further on must fail."""
        with self.subTest(top=top, by=by):
            down, up = down_by(top, by), up_by(top, by)
            self.assertIs(type(down), int)
            self.assertIs(type(up), int)
            self.assertTrue(by * down <= top < by * (down + 1))
            self.assertTrue(by * (up - 1) < top <= by * up)

    def test_small_numbers(self):
        for by in range(1, 14):
            for top in range(-45, 46):
                self.check(top, by)

    def test_sixty_figures(self):
        for by in (1, 2, 7, 10 ** 30 + 1, SIXTY_LEAST, SIXTY_MIXED, SIXTY_NINES):
            for size in (0, 1, 2, by - 1, by, by + 1, SIXTY_LEAST, SIXTY_MIXED, SIXTY_NINES):
                self.check(size, by)
                self.check(-size, by)

    def test_multiples_and_neighbours_of_sixty_figures(self):
        by = 10 ** 29 + 7
        for times in (-(10 ** 30), -3, 0, 3, 10 ** 30):
            for off in (-1, 0, 1):
                self.check(by * times + off, by)


class Told(unittest.TestCase):
    def check(self, top, by, down, up):
        with self.subTest(top=top, by=by):
            self.assertEqual(down_by(top, by), down)
            self.assertEqual(up_by(top, by), up)

    def test_above_0(self):
        self.check(7, 2, 3, 4)
        self.check(1, 5, 0, 1)
        self.check(19, 2, 9, 10)

    def test_0(self):
        self.check(0, 1, 0, 0)
        self.check(0, 9, 0, 0)

    def test_below_0(self):
        self.check(-7, 2, -4, -3)
        self.check(-1, 5, -1, 0)

    def test_multiples_and_neighbours(self):
        self.check(11, 4, 2, 3)
        self.check(12, 4, 3, 3)
        self.check(13, 4, 3, 4)
        self.check(-11, 4, -3, -2)
        self.check(-12, 4, -3, -3)
        self.check(-13, 4, -4, -3)

    def test_by_1(self):
        for top in (-SIXTY_NINES, -2, -1, 0, 1, 2, SIXTY_NINES):
            self.check(top, 1, top, top)

    def test_sixty_figures(self):
        # A division by way of numbers with a point would lose the last figures here.
        self.check(SIXTY_NINES, 10, 10 ** 59 - 1, 10 ** 59)
        self.check(-SIXTY_NINES, 10, -(10 ** 59), -(10 ** 59) + 1)
        self.check(SIXTY_NINES, SIXTY_NINES, 1, 1)
        self.check(SIXTY_NINES - 1, SIXTY_NINES, 0, 1)
        self.check(-SIXTY_NINES + 1, SIXTY_NINES, -1, 0)

    def test_whole_numbers_not_true_or_false(self):
        for top in (-1, 0, 1):
            self.assertIs(type(down_by(top, 1)), int)
            self.assertIs(type(up_by(top, 1)), int)

    def test_asked_twice(self):
        for top in (-SIXTY_MIXED, -5, 0, 5, SIXTY_MIXED):
            first = (down_by(top, 3), up_by(top, 3))
            down_by(1, 2)
            up_by(-1, 2)
            self.assertEqual((down_by(top, 3), up_by(top, 3)), first)


if __name__ == "__main__":
    unittest.main()
