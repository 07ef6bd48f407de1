"""Point [18]: texts read as programs, and NoText for all others."""

import re
import unittest

from loopturn.errors import LoopError, NoText
from loopturn.reader import read
from loopturn.texts import shown
from samples import EXAMPLE, EXAMPLE_PROGRAM, SIXTY_NINES, SMALL, Draw, at, row_of, span

WORDS = ("loop", "from", "to", "end")
PLAIN = "loop i from 0 to 1\na[i] = 1\nend"

# The grammar of [16] and [17] once more, as one pattern for each kind of line.
MORE_THAN_1 = r"(?:[2-9]|[1-9][0-9]{1,59})"
NOT_0 = r"[1-9][0-9]{0,59}"
NAME = r"(?!(?:loop|from|to|end)(?![a-z]))[a-z]{1,8}(?![a-z])"


def sum_pattern(names):
    """Texts of sums over these names: a first part, and any of the later ones in their order."""
    choices = [rf"-?{NOT_0}|0"]
    for first in range(len(names)):
        later = "".join(rf"(?:[+-]{MORE_THAN_1}?{name})?" for name in names[first + 1:])
        choices.append(rf"-?{MORE_THAN_1}?{names[first]}{later}(?:[+-]{NOT_0})?")
    return "(?:" + "|".join(choices) + ")"


def is_written(text):
    """Whether a text is what [17] writes of some program, with the limits of the points."""
    state, names, rows, pieces = "loops", [], 0, 0
    for line in text.split("\n"):
        end = sum_pattern(names) + rf"(?:/{MORE_THAN_1})?"
        ends = rf"{end}(?:, {end})*"
        place = rf"{NAME}\[{sum_pattern(names)}(?:, {sum_pattern(names)})?\]"
        number = rf"(?:-?{NOT_0}|0)"
        row = rf"{place} = {sum_pattern(names)}(?: \+ {number}\*{place}(?:\*{place})?){{0,4}}"
        loop = re.fullmatch(rf"loop ({NAME}) from {ends} to {ends}", line)
        if loop and state == "loops" and loop.group(1) not in names and len(names) < 3:
            names.append(loop.group(1))
        elif re.fullmatch(row, line) and names and rows < 8:
            state, rows = "rows", rows + 1
        elif line == "end" and rows:
            state, names, rows, pieces = "loops", [], 0, pieces + 1
        else:
            return False
    return not names and 1 <= pieces <= 6


class Checked(unittest.TestCase):
    def refused(self, *texts):
        for text in texts:
            with self.subTest(text=text):
                with self.assertRaises(NoText) as caught:
                    read(text)
                self.assertIsInstance(caught.exception, LoopError)

    def told(self, text):
        """The program of a text that must be let by, its kinds looked through."""
        with self.subTest(text=text):
            program = read(text)
            self.assertIs(type(program), list)
            for piece in program:
                self.plain(piece)
            self.assertEqual(shown(program), text)
            return program

    def plain(self, part):
        """Nothing but tuples, names and whole numbers within a piece."""
        self.assertIn(type(part), (tuple, str, int))
        if isinstance(part, tuple):
            for inner in part:
                self.plain(inner)

    def changed(self, old, new, text=EXAMPLE):
        """Refused with one place changed; the text itself is let by."""
        self.assertIn(old, text)
        self.told(text)
        self.refused(text.replace(old, new, 1))

    def with_sum(self, total, loops="i j"):
        """A text with this sum as the right of its row."""
        names = loops.split()
        return "\n".join([f"loop {name} from 0 to 1" for name in names] + [f"a[0] = {total}", "end"])


class Read(Checked):
    def test_the_example(self):
        self.assertEqual(self.told(EXAMPLE), EXAMPLE_PROGRAM)

    def test_sums(self):
        for text, total in (
            ("2i-j+3", (2, -1, 3)), ("-i", (-1, 0, 0)), ("0", (0, 0, 0)), ("i+j", (1, 1, 0)), ("-7", (0, 0, -7)),
            ("j", (0, 1, 0)), ("-j-1", (0, -1, -1)), ("10i+11j", (10, 11, 0)), ("-2i", (-2, 0, 0)),
            ("9" * 60 + "i", (SIXTY_NINES, 0, 0)), ("i-" + "9" * 60, (1, 0, -SIXTY_NINES)),
        ):
            self.assertEqual(self.told(self.with_sum(text))[0][1][0][1], (total, ()))

    def test_tables_and_loops_of_one_name(self):
        program = self.told("loop a from 0 to 1\na[a] = a + 1*a[a, 2]\nend")
        row = row_of(at("a", (1, 0)), (1, 0), (1, (at("a", (1, 0), (0, 2)),)))
        self.assertEqual(program, [((span("a", 0, 1),), (row,))])

    def test_names_that_begin_like_others(self):
        program = self.told(self.with_sum("i-ij+2ji", "i ij ji"))
        self.assertEqual(program[0][1][0][1][0], (1, -1, 2, 0))
        self.told("loop loops from 0 to 1\nends[loops] = 0\nend")
        self.told("loop too from 0 to 1\ntoo[too] = too\nend")

    def test_what_a_program_may_have(self):
        row = "a[i, j+k] = i + 1*a[i]*b[j] + 1*a[i] + 0*a[i] + -1*a[k]"
        loops = "loop i from 0 to 1\nloop j from i to i, i\nloop k from -i+j, 0 to 2j/3"
        piece = "\n".join([loops] + [row] * 8 + ["end"])
        program = self.told("\n".join([piece] * 6))
        self.assertEqual(len(program), 6)
        self.assertEqual([(len(loops), len(rows)) for loops, rows in program], [(3, 8)] * 6)

    def test_many_ends(self):
        ends = ", ".join(str(k) for k in range(300))
        program = self.told(f"loop i from {ends} to 1, 1\na[i] = 0\nend")
        self.assertEqual(program[0][0][0][1], tuple((1, (k,)) for k in range(300)))

    def test_loops_without_values_are_read(self):
        self.told("loop i from 5 to 4\na[i] = 0\nend")

    def test_programs_of_any_size_are_read(self):
        self.told(f"loop i from -{'9' * 60} to {'9' * 60}\na[i] = 0\nend")

    def test_what_is_written_is_read_as_that_program(self):
        for seed, numbers in ((30, SMALL), (31, None)):
            draw = Draw(seed, numbers) if numbers else Draw(seed)
            for number in range(400):
                program = draw.program()
                self.assertEqual(read(shown(program)), program)

    def test_somewhat_above_four_thousand_signs(self):
        row = "a[i] = 0 + " + " + ".join(["9" * 60 + "*a[" + "9" * 60 + "i]"] * 4)
        piece = "\n".join(["loop i from 0 to 1"] + [row] * 8 + ["end"])
        self.assertGreater(len(piece), 4000)
        self.told(piece)


class NoTexts(Checked):
    def test_what_is_no_text(self):
        self.refused(0, 1, -5, None, True, False, [], [PLAIN], (), (PLAIN,), {}, {PLAIN: 1}, PLAIN.encode(), b"", read)
        self.refused(read(PLAIN), PLAIN.split("\n"))

    def test_the_empty_text_and_nearly(self):
        self.refused("", "\n", " ", "end", "end\nend", "loop", "a", "0", "a[0] = 0", "loop i from 0 to 1")


class Lines(Checked):
    def test_line_ends(self):
        self.refused(EXAMPLE + "\n", "\n" + EXAMPLE, EXAMPLE.replace("\n", "\n\n", 1), EXAMPLE.replace("\n", "\r\n"))
        self.refused(EXAMPLE.replace("\n", "\r"), EXAMPLE.replace("\n", " "), PLAIN + "\n\n" + PLAIN, PLAIN + "\r")
        self.refused(PLAIN.replace("\n", "\x0b"), PLAIN.replace("\n", "\u2028"), PLAIN + PLAIN)

    def test_a_missing_end(self):
        self.refused(PLAIN.removesuffix("\nend"), PLAIN + "\n" + PLAIN.removesuffix("\nend"))
        self.refused(PLAIN.removesuffix("end"), PLAIN[:-1], PLAIN + "d", PLAIN + " ", PLAIN.replace("end", "End"))
        self.refused(PLAIN + "\nend", "end\n" + PLAIN, PLAIN.replace("\na", "\nend\na"))

    def test_a_piece_without_loops_or_rows(self):
        self.refused("a[0] = 1\nend", "loop i from 0 to 1\nend", PLAIN + "\na[0] = 1\nend")
        self.refused(PLAIN + "\nloop i from 0 to 1\nend", PLAIN + "\nloop i from 0 to 1")

    def test_a_loop_behind_a_row(self):
        self.refused("loop i from 0 to 1\na[i] = 1\nloop j from 0 to 1\nend")
        self.refused("loop i from 0 to 1\na[i] = 1\nloop j from 0 to 1\nb[j] = 1\nend")
        self.refused("a[0] = 1\nloop i from 0 to 1\nend", "a[0] = 1\nloop i from 0 to 1\na[i] = 1\nend")

    def test_four_loops(self):
        loops = [f"loop {name} from 0 to 1" for name in "ijkl"]
        self.told("\n".join(loops[:3] + ["a[i] = 0", "end"]))
        self.refused("\n".join(loops + ["a[i] = 0", "end"]))

    def test_nine_rows(self):
        self.told("\n".join(["loop i from 0 to 1"] + ["a[i] = 0"] * 8 + ["end"]))
        self.refused("\n".join(["loop i from 0 to 1"] + ["a[i] = 0"] * 9 + ["end"]))

    def test_seven_pieces(self):
        self.told("\n".join([PLAIN] * 6))
        self.refused("\n".join([PLAIN] * 7))

    def test_five_terms(self):
        self.told(self.with_sum("0" + " + 1*a[i]" * 4))
        self.refused(self.with_sum("0" + " + 1*a[i]" * 5))

    def test_three_places(self):
        self.told(self.with_sum("0 + 1*a[i]*a[i]"))
        self.refused(self.with_sum("0 + 1*a[i]*a[i]*a[i]"), self.with_sum("0 + 1"), self.with_sum("0 + 1*"))

    def test_three_sums(self):
        self.changed("a[i, j]", "a[i, j, 0]")
        self.changed("b[0]", "b[0, 0, 0]")
        self.changed("b[0]", "b[]")


class Blanks(Checked):
    def test_a_blank_more_or_fewer(self):
        for text in (EXAMPLE, PLAIN + "\n" + EXAMPLE):
            for at_sign in range(len(text) + 1):
                self.refused(text[:at_sign] + " " + text[at_sign:])
                if text[at_sign:at_sign + 1] == " ":
                    self.refused(text[:at_sign] + text[at_sign + 1:])

    def test_tabs(self):
        self.refused(EXAMPLE.replace(" ", "\t", 1), EXAMPLE.replace(" ", "\t"), EXAMPLE.replace(" ", "\u00a0"))


class Sums(Checked):
    def test_noughts_ahead(self):
        self.changed("0 to 9", "00 to 9")
        self.changed("0 to 9", "0 to 09")
        self.changed("3i-7", "03i-7")
        self.changed("3i-7", "3i-07")
        self.changed("19/2", "19/02")
        self.changed("2*a", "02*a")
        self.changed("-1*b", "-01*b")

    def test_signs(self):
        self.changed("2i+4", "2i4")
        self.changed("2i+4", "2i++4")
        self.changed("2i+4", "2i+-4")
        self.changed("2i+4", "2i-+4")
        self.changed("2i+4", "2i+4+")
        self.changed("2i+4", "+2i+4")
        self.changed("i-1, j", "+i-1, j")
        self.changed("i-1, j", "--i-1, j")
        self.changed("i-1, j", "i--1, j")
        self.changed("2*a", "+2*a")
        self.changed("-1*b", "--1*b")
        self.changed("-1*b", "-*b")
        self.changed(" + -1*b[j]", " - 1*b[j]")
        self.changed(" + -1*b[j]", " + b[j]")
        self.changed(" + -1*b[j]", " + -b[j]")
        self.changed("0 to 9", "+0 to 9")
        self.changed("0 to 9", "0 to +9")

    def test_nought_with_a_sign(self):
        self.changed("0 to 9", "-0 to 9")
        self.changed("b[0]", "b[-0]")
        self.changed("3i-7", "3i-0")
        self.changed("3i-7", "3i+0")
        self.changed("3i-7", "0+3i")
        self.changed("-1*b", "-0*b")
        self.told(EXAMPLE.replace("-1*b", "0*b"))

    def test_weights_1_and_0(self):
        for text in ("1i", "-1i", "0i", "-0i", "i+1j", "i-1j", "i+0j", "i-0j", "0i+j", "01i", "+i", "+1i", "+2i"):
            self.refused(self.with_sum(text))
        self.told(self.with_sum("11i-10j"))

    def test_order_and_twice(self):
        for text in ("j+i", "3+i", "i+3+j", "i+i", "i-i", "i+j+i", "1+1", "0+0", "i+1+1", "2i+j-i"):
            self.refused(self.with_sum(text))
        for text in ("ij", "i*2", "i2", "i j"):
            self.refused(self.with_sum(text))
        self.told(self.with_sum("i+j+3"))

    def test_names_of_no_loop(self):
        self.refused(self.with_sum("k"), self.with_sum("i+k"), self.with_sum("2x"), self.with_sum("ii"))
        self.refused(self.with_sum("I"), self.with_sum("a"), self.with_sum("end"), self.with_sum(""))

    def test_ends_name_outer_loops_alone(self):
        self.told("loop i from 0 to 1\nloop j from i to i+1\na[j] = 0\nend")
        self.refused("loop i from i to 1\na[i] = 0\nend", "loop i from 0 to i\na[i] = 0\nend")
        self.refused("loop i from 0 to 1\nloop j from j to 1\na[j] = 0\nend")
        self.refused("loop i from 0 to j\nloop j from 0 to 1\na[j] = 0\nend")
        self.refused("loop i from 0 to 1\nloop j from 0 to k\nloop k from 0 to 1\na[j] = 0\nend")
        self.told("loop i from 0 to 1\nloop j from 0 to 1\nloop k from i-j to j\na[j] = 0\nend")

    def test_names_of_another_piece(self):
        self.refused("loop i from 0 to 1\na[i] = 0\nend\nloop j from 0 to 1\na[i] = 0\nend")
        self.refused("loop i from 0 to 1\na[i] = 0\nend\nloop j from 0 to i\na[j] = 0\nend")
        self.told("loop i from 0 to 1\na[i] = 0\nend\nloop i from 0 to 1\na[i] = 0\nend")

    def test_by(self):
        for by in ("/1", "/0", "/-2", "/+2", "/", "/2/2", "/i", "2/", "//2", "/ 2"):
            self.changed("19/2", "19" + by)
        self.changed("19/2", "/2")
        self.changed("3i-7", "3i-7/2")
        self.changed("b[0]", "b[0/2]")
        self.told(EXAMPLE.replace("19/2", "20/2"))

    def test_sixty_one_figures(self):
        sixty, more = "9" * 60, "1" + "0" * 60
        for old in ("0 to", "4, 19", "19/", "2\na", "3i", "7 +", "2*", "1, j]", "0]", "1*b"):
            figures = re.match("[0-9]+", old).group()
            self.told(EXAMPLE.replace(old, sixty + old[len(figures):], 1))
            self.changed(old, more + old[len(figures):])
        self.told(EXAMPLE.replace("-7", "-" + sixty))
        self.refused(EXAMPLE.replace("-7", "-" + more))
        self.refused(EXAMPLE.replace("-7", "-" + "1" * 3000), EXAMPLE.replace("-7", "-" + "1" * 6000))


class Names(Checked):
    def test_tables(self):
        for name in ("", *WORDS, "abcdefghi", "A", "aB", "a1", "1", "a_", "a-b", "\u00e4", "2a", "-a"):
            self.changed("a[i, j]", name + "[i, j]")
            self.changed("b[0]", name + "[0]")
        for name in ("a", "abcdefgh", "loops", "t", "fro", "en"):
            self.told(EXAMPLE.replace("b[0]", name + "[0]"))

    def test_loops(self):
        for name in ("", *WORDS, "abcdefghi", "A", "a1", "1", "a_", "\u00e4"):
            self.refused(f"loop {name} from 0 to 1\na[0] = 0\nend", f"loop {name} from 0 to 1\na[{name}] = 0\nend")
        for name in ("a", "abcdefgh", "loops", "t", "fro", "en"):
            self.told(f"loop {name} from 0 to 1\na[{name}] = 0\nend")

    def test_two_loops_of_one_name(self):
        self.refused("loop i from 0 to 1\nloop i from 0 to 1\na[0] = 0\nend")
        self.refused("loop i from 0 to 1\nloop j from 0 to 1\nloop i from 0 to 1\na[0] = 0\nend")
        self.refused("loop i from 0 to 1\nloop i from 0 to 1\na[i] = i\nend")


class Signs(Checked):
    def test_signs_that_are_none(self):
        for sign in "!#$%&'().:;<>?@\\^_`{|}~\"AZ\t\x00\x7f\u00e4\u0663\u00b2\u2212\ud800":
            for at_sign in range(0, len(EXAMPLE) + 1, 3):
                self.refused(EXAMPLE[:at_sign] + sign + EXAMPLE[at_sign:])

    def test_figures_of_other_scripts(self):
        self.changed("9", "\u0669")
        self.changed("9", "\uff19")
        self.changed("i", "\u0456")

    def test_the_words_and_signs_of_lines(self):
        for old, new in (
            ("loop ", "Loop "), ("loop ", "loop"), ("loop ", ""), (" from ", " "), (" to ", " "),
            (" to ", ", "), ("from 0 to 9", "to 9 from 0"), ("from 0 to 9", "from 0"),
            ("from 0 to 9", "from  to 9"), ("0 to 9", "0, to 9"), ("0 to 9", "0 to 9, "),
            ("0 to 9", "0 to 9 to 9"), ("i, 2", "i 2"), ("i, 2", "i,, 2"), (" = ", "="), (" = ", " == "),
            (" = ", " "), ("a[i, j] = ", ""), ("a[i, j]", "a"), ("a[i, j]", "a[i, j"), ("a[i, j]", "ai, j]"),
            ("a[i, j]", "a[i, j]]"), ("a[i, j]", "a[[i, j]"), ("a[i, j]", "a(i, j)"), ("a[i, j]", "a[i][j]"),
            ("*b[0]", "b[0]"), ("*b[0]", "**b[0]"), ("*b[0]", "*2"), ("2*a", "a*2"), ("2*a", "a"),
            ("2*a", "2a"), (" + 2", "+2"), (" + 2", " + + 2"), (" + 2", " 2"), ("*b[j]", "*b[j] + "),
            ("3i-7", ""),
        ):
            self.changed(old, new)


class EachPlace(Checked):
    """All texts that differ in one place from a written one, held against the grammar written once more."""

    TEXTS = (
        PLAIN,
        EXAMPLE,
        "loop i from 0/12 to -11, 1/3\na[-i] = 0\nend",
        "loop t from 1 to 2\nloop ab from -t+1, 0 to 10t\nab[ab, t] = t-ab + 1*t[0]*t[ab-1] + 0*a[12t-1]\nend",
        PLAIN + "\nloop x from -1 to 0\nloop y from x to 2\nloop z from x-y, 0 to 3y/2\nb[x+2y-3z-1] = -x\nend",
    )
    SIGNS = "0129-+*/[], =\nijtabxyzlend"

    def check(self, text):
        if is_written(text):
            self.assertEqual(shown(read(text)), text)
        else:
            with self.assertRaises(NoText, msg=repr(text)):
                read(text)

    def test_written_ones(self):
        for text in self.TEXTS:
            self.assertTrue(is_written(text), text)
            self.told(text)
        draw = Draw(32)
        for number in range(60):
            self.assertTrue(is_written(shown(draw.program())))

    def test_a_sign_left_out(self):
        for text in self.TEXTS:
            for place in range(len(text)):
                self.check(text[:place] + text[place + 1:])

    def test_a_sign_put_in_or_exchanged(self):
        for text in self.TEXTS:
            for place in range(len(text) + 1):
                for sign in self.SIGNS:
                    self.check(text[:place] + sign + text[place:])
                    self.check(text[:place] + sign + text[place + 1:])

    def test_two_neighbours_exchanged(self):
        for text in self.TEXTS:
            for place in range(len(text) - 1):
                self.check(text[:place] + text[place + 1] + text[place] + text[place + 2:])

    def test_lines_left_out_put_twice_and_exchanged(self):
        for text in self.TEXTS:
            lines = text.split("\n")
            for place in range(len(lines)):
                self.check("\n".join(lines[:place] + lines[place + 1:]))
                self.check("\n".join(lines[:place] + [lines[place]] + lines[place:]))
                self.check("\n".join(lines[:place] + lines[place + 1:place + 2] + [lines[place]] + lines[place + 2:]))


class Kept(Checked):
    def test_a_told_program_may_be_changed(self):
        kept = read(EXAMPLE)
        told = read(EXAMPLE)
        told.clear()
        self.assertEqual(read(EXAMPLE), kept)
        self.assertIsNot(read(EXAMPLE), read(EXAMPLE))

    def test_the_same_behind_a_refusal(self):
        for again in range(2):
            self.refused(EXAMPLE + " ", "", None, PLAIN + "\n")
            self.assertEqual(read(EXAMPLE), EXAMPLE_PROGRAM)
            self.assertEqual(shown(read(PLAIN)), PLAIN)

    def test_what_is_no_text_stays(self):
        lines = PLAIN.split("\n")
        kept = list(lines)
        self.refused(lines)
        self.assertEqual(lines, kept)


if __name__ == "__main__":
    unittest.main()
