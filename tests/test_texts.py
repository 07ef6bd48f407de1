"""Points [16], [17]: how a number, a sum, an end, a place, a row and a program are written."""

import copy
import re
import unittest

from loopturn.texts import shown
from samples import EXAMPLE, EXAMPLE_PROGRAM, SIXTY_MIXED, SIXTY_NINES, Draw, at, row_of, span

LOOPS = (span("i", 0, 1), span("j", 0, 1, 1))


def shown_sum(total):
    """How a sum over i and j is written, as the right of a row."""
    lines = shown([(LOOPS, (row_of(at("a", (0, 0, 0)), total),))]).split("\n")
    return lines[2].removeprefix("a[0] = ")


def shown_row(row):
    return shown([(LOOPS, (row,))]).split("\n")[2]


def shown_loop(lows, highs):
    """How a loop k within i and j is written, from its ends."""
    piece = (LOOPS + (("k", lows, highs),), (row_of(at("a", (0, 0, 0, 0)), (0, 0, 0, 0)),))
    return shown([piece]).split("\n")[2].removeprefix("loop k from ")


def sum_by_hand(total, names):
    """The words of [16], by writing all signs and weights and taking the needless ones away."""
    text = "".join(f"{weight:+d}{name}" for weight, name in zip(total[:-1], names) if weight)
    if total[-1] or not text:
        text += f"{total[-1]:+d}"
    return re.sub(r"([+-])1(?=[a-z])", r"\1", text).removeprefix("+")


def by_hand(program):
    """The words of [17]."""
    text = ""
    for loops, rows in program:
        names = [name for name, lows, highs in loops]

        def ends(many):
            return ", ".join(sum_by_hand(total, names) + (f"/{by}" if by > 1 else "") for by, total in many)

        def place(one):
            return one[0] + "[" + ", ".join(sum_by_hand(total, names) for total in one[1]) + "]"

        for name, lows, highs in loops:
            text += f"loop {name} from {ends(lows)} to {ends(highs)}\n"
        for written, (total, terms) in rows:
            text += f"{place(written)} = {sum_by_hand(total, names)}"
            for weight, places in terms:
                text += f" + {weight}" + "".join("*" + place(one) for one in places)
            text += "\n"
        text += "end\n"
    return text[:-1]


class Examples(unittest.TestCase):
    def test_the_program(self):
        self.assertIs(type(shown(EXAMPLE_PROGRAM)), str)
        self.assertEqual(shown(EXAMPLE_PROGRAM), EXAMPLE)

    def test_the_sums(self):
        self.assertEqual(shown_sum((2, -1, 3)), "2i-j+3")
        self.assertEqual(shown_sum((-1, 0, 0)), "-i")
        self.assertEqual(shown_sum((0, 0, 0)), "0")
        self.assertEqual(shown_sum((1, 1, 0)), "i+j")
        self.assertEqual(shown_sum((0, 0, -7)), "-7")

    def test_the_places(self):
        one = row_of(at("a", (2, 0, -1)), (0, 0, 0))
        two = row_of(at("a", (1, 0, 0), (0, 1, 1)), (0, 0, 0))
        self.assertEqual(shown_row(one), "a[2i-1] = 0")
        self.assertEqual(shown_row(two), "a[i, j+1] = 0")


class Sums(unittest.TestCase):
    def test_weights(self):
        self.assertEqual(shown_sum((1, 0, 0)), "i")
        self.assertEqual(shown_sum((3, 0, 0)), "3i")
        self.assertEqual(shown_sum((-3, 0, 0)), "-3i")
        self.assertEqual(shown_sum((0, 1, 0)), "j")
        self.assertEqual(shown_sum((0, -1, 0)), "-j")
        self.assertEqual(shown_sum((1, -1, 0)), "i-j")
        self.assertEqual(shown_sum((-1, 1, 0)), "-i+j")
        self.assertEqual(shown_sum((-1, -1, -1)), "-i-j-1")
        self.assertEqual(shown_sum((10, -11, 0)), "10i-11j")
        self.assertEqual(shown_sum((11, 21, 1)), "11i+21j+1")

    def test_numbers(self):
        self.assertEqual(shown_sum((0, 0, 1)), "1")
        self.assertEqual(shown_sum((0, 0, -1)), "-1")
        self.assertEqual(shown_sum((0, 0, 100)), "100")
        self.assertEqual(shown_sum((0, 2, 1)), "2j+1")
        self.assertEqual(shown_sum((0, 2, -1)), "2j-1")

    def test_sixty_figures(self):
        self.assertEqual(shown_sum((SIXTY_NINES, -SIXTY_MIXED, SIXTY_NINES)), f"{'9' * 60}i-{SIXTY_MIXED}j+{'9' * 60}")
        self.assertEqual(shown_sum((0, 0, -SIXTY_NINES)), "-" + "9" * 60)

    def test_no_names(self):
        program = [((span("i", -5, 0),), (row_of(at("a", (1, 0)), (0, 0)),))]
        self.assertEqual(shown(program).split("\n")[0], "loop i from -5 to 0")

    def test_long_names(self):
        loops = (span("abcdefgh", 0, 1), span("a", 0, 1, 1))
        program = [(loops, (row_of(at("abcdefgh", (1, 2, 3)), (-2, -1, 0)),))]
        self.assertEqual(shown(program).split("\n")[2], "abcdefgh[abcdefgh+2a+3] = -2abcdefgh-a")


class Ends(unittest.TestCase):
    def test_by(self):
        self.assertEqual(shown_loop(((1, (0, 0, 5)),), ((2, (0, 0, 19)),)), "5 to 19/2")
        self.assertEqual(shown_loop(((3, (1, -1, 0)),), ((10, (0, 0, 0)),)), "i-j/3 to 0/10")
        self.assertEqual(shown_loop(((SIXTY_NINES, (0, 0, -1)),), ((1, (0, 0, 0)),)), "-1/" + "9" * 60 + " to 0")

    def test_not_brought_to_lower_terms(self):
        self.assertEqual(shown_loop(((2, (0, 0, 4)),), ((4, (2, 6, 8)),)), "4/2 to 2i+6j+8/4")

    def test_several(self):
        lows = ((1, (1, 0, 0)), (2, (0, 1, 1)), (1, (0, 0, -2)))
        highs = ((1, (0, 0, 9)), (1, (0, 0, 9)), (7, (-1, 0, 0)), (1, (0, 1, 0)))
        self.assertEqual(shown_loop(lows, highs), "i, j+1/2, -2 to 9, 9, -i/7, j")


class Rows(unittest.TestCase):
    def test_none_to_four_terms(self):
        a, b = at("a", (1, 0, 0)), at("b", (0, 1, 0), (0, 0, -1))
        terms = ((1, (a,)), (-1, (b, a)), (0, (a, b)), (SIXTY_NINES, (b,)))
        texts = (" + 1*a[i]", " + -1*b[j, -1]*a[i]", " + 0*a[i]*b[j, -1]", " + " + "9" * 60 + "*b[j, -1]")
        for many in range(5):
            self.assertEqual(shown_row(row_of(a, (0, 0, 4), *terms[:many])), "a[i] = 4" + "".join(texts[:many]))

    def test_the_sum_is_always_written(self):
        place = at("a", (0, 0, 0))
        self.assertEqual(shown_row(row_of(place, (0, 0, 0), (2, (place,)))), "a[0] = 0 + 2*a[0]")


class Programs(unittest.TestCase):
    def test_several_pieces(self):
        piece = ((span("i", 0, 1),), (row_of(at("a", (1, 0)), (0, 1)), row_of(at("b", (1, 0)), (0, 2))))
        text = "loop i from 0 to 1\na[i] = 1\nb[i] = 2\nend"
        for many in range(1, 7):
            self.assertEqual(shown([piece] * many), "\n".join([text] * many))

    def test_no_line_end_behind_the_last_line(self):
        draw = Draw(20)
        for number in range(50):
            text = shown(draw.program())
            self.assertTrue(text.endswith("\nend"))
            self.assertNotIn("\n\n", text)

    def test_names_are_each_piece_s_own(self):
        one = ((span("i", 0, 1),), (row_of(at("a", (1, 0)), (0, 0)),))
        other = ((span("x", 0, 1),), (row_of(at("a", (1, 0)), (0, 0)),))
        self.assertEqual(
            shown([one, other]),
            "loop i from 0 to 1\na[i] = 0\nend\nloop x from 0 to 1\na[x] = 0\nend",
        )

    def test_drawn_ones(self):
        draw = Draw(21)
        for number in range(500):
            program = draw.program()
            self.assertEqual(shown(program), by_hand(program))

    def test_longer_numbers_than_are_handed_in(self):
        told = shown([((span("i", -10 ** 3000, 0),), (row_of(at("a", (1, 0)), (0, 0)),))])
        self.assertTrue(told.startswith("loop i from -1" + "0" * 3000 + " to 0\n"))


class Kept(unittest.TestCase):
    def test_a_program_stays_and_is_written_alike(self):
        draw = Draw(22)
        for number in range(50):
            program = draw.program()
            before = copy.deepcopy(program)
            text = shown(program)
            shown(EXAMPLE_PROGRAM)
            self.assertEqual(program, before)
            self.assertEqual(shown(program), text)

    def test_a_changed_program_is_written_anew(self):
        program = list(EXAMPLE_PROGRAM)
        self.assertEqual(shown(program), EXAMPLE)
        program.append(EXAMPLE_PROGRAM[0])
        self.assertEqual(shown(program), EXAMPLE + "\n" + EXAMPLE)


if __name__ == "__main__":
    unittest.main()
