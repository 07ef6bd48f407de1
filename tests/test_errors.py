"""The refusals, as the interface lists them under loopturn/errors.py."""

import unittest

from loopturn.errors import LoopError, NoFit, NoText, OutOfOrder, TooMany

FOUR = (NoText, NoFit, TooMany, OutOfOrder)
FIRST = (0, 1, (2, -3))
SECOND = (1, 0, (4,))


class Standing(unittest.TestCase):
    def test_loop_error_stands_under_value_error(self):
        self.assertTrue(issubclass(LoopError, ValueError))
        self.assertIsNot(LoopError, ValueError)

    def test_each_stands_under_loop_error(self):
        for kind in FOUR:
            with self.subTest(kind=kind.__name__):
                self.assertTrue(issubclass(kind, LoopError))
                self.assertIsNot(kind, LoopError)

    def test_none_stands_under_another(self):
        for one in FOUR:
            for other in FOUR:
                if one is not other:
                    with self.subTest(one=one.__name__, other=other.__name__):
                        self.assertFalse(issubclass(one, other))

    def test_names(self):
        self.assertEqual(
            [kind.__name__ for kind in (LoopError, *FOUR)],
            ["LoopError", "NoText", "NoFit", "TooMany", "OutOfOrder"],
        )


class Raising(unittest.TestCase):
    def test_plain_ones_are_made_of_a_message(self):
        for kind in (LoopError, NoText, NoFit, TooMany):
            with self.subTest(kind=kind.__name__):
                with self.assertRaises(LoopError) as caught:
                    raise kind("why")
                self.assertIs(type(caught.exception), kind)
                self.assertEqual(str(caught.exception), "why")

    def test_out_of_order_is_caught_as_any_refusal(self):
        for kind in (OutOfOrder, LoopError, ValueError):
            with self.subTest(kind=kind.__name__):
                with self.assertRaises(kind):
                    raise OutOfOrder(FIRST, SECOND)


class Fields(unittest.TestCase):
    def test_out_of_order_has_its_doings(self):
        error = OutOfOrder(FIRST, SECOND)
        self.assertEqual(error.first, (0, 1, (2, -3)))
        self.assertEqual(error.second, (1, 0, (4,)))

    def test_the_order_of_the_doings_is_kept(self):
        error = OutOfOrder(SECOND, FIRST)
        self.assertEqual((error.first, error.second), (SECOND, FIRST))

    def test_fields_are_there_when_caught(self):
        with self.assertRaises(LoopError) as caught:
            raise OutOfOrder(FIRST, SECOND)
        self.assertEqual((caught.exception.first, caught.exception.second), (FIRST, SECOND))

    def test_each_error_has_its_own_fields(self):
        one = OutOfOrder(FIRST, SECOND)
        other = OutOfOrder(SECOND, SECOND)
        self.assertEqual(one.first, FIRST)
        self.assertEqual(other.first, SECOND)

    def test_it_can_be_shown(self):
        self.assertIsInstance(str(OutOfOrder(FIRST, SECOND)), str)


if __name__ == "__main__":
    unittest.main()
