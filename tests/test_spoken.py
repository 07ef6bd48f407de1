"""[31]: texts read as turnings."""

import unittest

from loopturn.errors import LoopError, NoText
from loopturn.joins import Join, Part
from loopturn.reader import read
from loopturn.spoken import read_turning
from loopturn.turnings import Back, Shift, Slant, Strips, Swap
from samples import SIXTY_MIXED, SIXTY_NINES, Draw

NINES = "9" * 60


class Taken(unittest.TestCase):
    def check(self, text, kind, turning):
        with self.subTest(text=text):
            told = read_turning(text)
            self.assertIs(type(told), kind)
            self.assertEqual(told.words(), text)
            self.assertEqual(turning.words(), text)
            self.assertEqual(vars(told), vars(turning))
            self.assertIsNot(read_turning(text), told)

    def test_each_kind(self):
        self.check("swap 0 1", Swap, Swap(0, 1))
        self.check("back 2 0", Back, Back(2, 0))
        self.check("slant 1 2 0 -7", Slant, Slant(1, 2, 0, -7))
        self.check("shift 5 1 12", Shift, Shift(5, 1, 12))
        self.check("strips 0 1 4 t", Strips, Strips(0, 1, 4))
        self.check("strips 0 1 4 abc", Strips, Strips(0, 1, 4, "abc"))
        self.check("join 3", Join, Join(3))
        self.check("part 4 2", Part, Part(4, 2))

    def test_numbers_below_0(self):
        self.check("swap -1 -2", Swap, Swap(-1, -2))
        self.check("back -1 -10", Back, Back(-1, -10))
        self.check("slant -1 -2 -3 -4", Slant, Slant(-1, -2, -3, -4))
        self.check("shift -1 -2 -3", Shift, Shift(-1, -2, -3))
        self.check("strips -1 -2 -3 t", Strips, Strips(-1, -2, -3))
        self.check("join -1", Join, Join(-1))
        self.check("part -1 -2", Part, Part(-1, -2))

    def test_sixty_figures(self):
        self.check(f"swap {NINES} -{NINES}", Swap, Swap(SIXTY_NINES, -SIXTY_NINES))
        self.check(f"back {SIXTY_MIXED} 0", Back, Back(SIXTY_MIXED, 0))
        self.check(f"slant 0 0 0 -{SIXTY_MIXED}", Slant, Slant(0, 0, 0, -SIXTY_MIXED))
        self.check(f"shift 0 0 {NINES}", Shift, Shift(0, 0, SIXTY_NINES))
        self.check(f"strips 0 0 {NINES} z", Strips, Strips(0, 0, SIXTY_NINES, "z"))
        self.check(f"join -{NINES}", Join, Join(-SIXTY_NINES))
        self.check(f"part 0 {SIXTY_MIXED}", Part, Part(0, SIXTY_MIXED))

    def test_names(self):
        for name in ("a", "z", "abcdefgh", "loops", "fro", "ends", "too", "swap", "strips", "t"):
            self.check(f"strips 0 0 2 {name}", Strips, Strips(0, 0, 2, name))

    def test_the_turning_is_the_same(self):
        program = read("loop i from 0 to 2\nloop j from i to 3\na[i, j] = 1\nb[i] = 2\nend")
        for turning in (Swap(0, 0), Back(0, 1), Slant(0, 1, 0, 3), Shift(0, 0, -2), Strips(0, 1, 2, "k"), Part(0, 1)):
            told = read_turning(turning.words())
            self.assertEqual(told.made(program), turning.made(program))
            self.assertEqual(told.there(program, (0, 1, (1, 2))), turning.there(program, (0, 1, (1, 2))))

    def test_drawn(self):
        draw = Draw(310)
        for again in range(200):
            numbers = [draw.source.choice(draw.numbers) for number in range(4)]
            for kind, many in ((Swap, 2), (Back, 2), (Slant, 4), (Shift, 3), (Strips, 3), (Join, 1), (Part, 2)):
                turning = kind(*numbers[:many])
                self.check(turning.words(), kind, turning)


class Refused(unittest.TestCase):
    def no(self, *texts):
        for text in texts:
            with self.subTest(text=text):
                with self.assertRaises(NoText) as caught:
                    read_turning(text)
                self.assertIsInstance(caught.exception, LoopError)

    # All that is written rightly; each test spoils it in one way.
    good = (
        "swap 0 1", "back 2 0", "slant 1 2 0 7", "shift 5 1 12", "strips 0 1 4 t", "join 3", "part 4 2",
    )

    def test_no_text(self):
        self.no(None, 0, 1, -1, True, False, [], ["swap 0 1"], (), ("swap", 0, 1), {}, {"swap 0 1": 1}, b"swap 0 1",
                b"", object(), Swap(0, 1), Swap, SIXTY_NINES, {"swap 0 1"}, bytearray(b"join 0"))

    def test_empty_or_blank(self):
        self.no("", " ", "  ", "\n", "\t")

    def test_a_blank_more_or_fewer(self):
        for text in self.good:
            self.no(" " + text, text + " ", text.replace(" ", "  ", 1), text.replace(" ", "", 1))
            self.no(text[::-1].replace(" ", "  ", 1)[::-1], text[::-1].replace(" ", "", 1)[::-1])
            self.no(text.replace(" ", "\t"), text.replace(" ", "\n"), text.replace(" ", ","), text.replace(" ", "_"))
            self.no(text.replace(" ", "\u00a0"))

    def test_a_line_end(self):
        for text in self.good:
            self.no(text + "\n", "\n" + text, text + "\r", text + "\n" + text)

    def test_a_word_too_many_or_too_few(self):
        for text in self.good:
            self.no(text + " 0", text + " t", text + " " + text, text.rpartition(" ")[0], text.partition(" ")[0])
            self.no(text.partition(" ")[2])
            self.no(text.replace(" ", " 0 ", 1))

    def test_another_word(self):
        self.no("turn 0 1", "swaps 0 1", "swa 0 1", "slat 0 1 0 1", "strip 0 1 2 t", "parts 0 1", "joins 0", "undo",
                "loop 0 1", "end", "0 0 1", "words 0", "made 0 1")

    def test_the_word_of_another_kind(self):
        self.no("join 0 1", "part 0", "shift 0 1", "slant 0 1 2", "swap 0", "back 0 1 2", "strips 0 1 2",
                "swap 0 1 t", "shift 0 1 2 t")

    def test_capital_letters(self):
        for text in self.good:
            self.no(text.upper(), text.capitalize(), text[:3] + text[3].upper() + text[4:])
        self.no("strips 0 1 4 T", "strips 0 1 4 aB")

    def test_noughts_ahead_and_signs(self):
        for wrong in ("00", "01", "-01", "+1", "+0", "-0", "--1", "-", "+", "1-", "1.", "1.0", "1e3", "0x1", "1_0",
                      "\u0661", "\u00b2", "a", "t", "one", "", "-+1", "1,", "'1'", "\uff11"):
            for text in self.good:
                parts = text.split(" ")
                for where in range(1, len(parts)):
                    if parts[0] == "strips" and where == 4:
                        continue
                    self.no(" ".join(parts[:where] + [wrong] + parts[where + 1:]))

    def test_sixty_one_figures(self):
        for text in self.good:
            parts = text.split(" ")
            for where in range(1, len(parts)):
                for wrong in ("1" + "0" * 60, "-" + "9" * 61, "0" * 60 + "1", "9" * 5000, "-" + "0" * 61):
                    self.no(" ".join(parts[:where] + [wrong] + parts[where + 1:]))

    def test_names_that_are_none(self):
        for name in ("", "loop", "from", "to", "end", "abcdefghi", "T", "a1", "1", "a-b", "a_b", "_", "a.", "\u00e9",
                     "t ", "a\n", "\u03b1", "ab c"):
            self.no("strips 0 1 4 " + name)

    def test_a_name_left_out(self):
        self.no("strips 0 1 4", "strips 0 1 4 ", "strips t 0 1 4", "strips 0 1 t 4")

    def test_the_same_behind_a_refusal(self):
        for again in range(2):
            self.no("swap 0", "strips 0 1 4")
            self.assertEqual(read_turning("strips 0 1 4 s").words(), "strips 0 1 4 s")


if __name__ == "__main__":
    unittest.main()
