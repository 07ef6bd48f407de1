"""[29] and [30], and [23] and [31] of these: pieces put together and cut in two."""

import unittest

from loopturn.errors import NoFit, TooMany
from loopturn.joins import Join, Part
from loopturn.reader import read
from loopturn.runs import size_of
from loopturn.turnings import Back, Shift, Slant, Strips, Swap, Turning
from looked_at import METHODS, Turned, text
from samples import SIXTY_MIXED, SIXTY_NINES, SMALL, Draw, at, row_of, span

BIG = 10 ** 18


def piece(letter, *rows, loops=("loop i from 0 to 2",)):
    """A piece's text: rows that write cells of a table of this letter."""
    return text(*loops, *[f"{letter}[i+{row}] = {row}" if row else f"{letter}[i] = 0" for row in rows], "end")


class Classes(unittest.TestCase):
    def test_under_turning_and_under_no_other(self):
        kinds = (Swap, Back, Slant, Shift, Strips, Join, Part)
        for kind in kinds:
            self.assertTrue(issubclass(kind, Turning))
            for other in kinds:
                self.assertIs(issubclass(kind, other), kind is other)

    def test_each_method_stands_in_its_own_class(self):
        for kind in (Join, Part):
            for method in METHODS:
                self.assertIn(method, vars(kind))

    def test_words(self):
        for turning, words in (
            (Join(0), "join 0"), (Join(5), "join 5"), (Join(-1), "join -1"),
            (Join(SIXTY_NINES), "join " + "9" * 60), (Join(-SIXTY_MIXED), f"join -{SIXTY_MIXED}"),
            (Part(0, 1), "part 0 1"), (Part(2, -3), "part 2 -3"), (Part(-2, 0), "part -2 0"),
            (Part(SIXTY_MIXED, -SIXTY_NINES), f"part {SIXTY_MIXED} -" + "9" * 60),
        ):
            for again in range(2):
                self.assertEqual(turning.words(), words)
            self.assertIs(type(turning.words()), str)


class Joins(Turned):
    def test_two_pieces(self):
        self.texts(
            Join(0),
            text("loop i from 0 to 2", "a[i] = 1", "b[i] = i + 1*a[i]", "end",
                 "loop i from 0 to 2", "c[i] = 3 + 1*a[i]*b[i-1]", "end"),
            text("loop i from 0 to 2", "a[i] = 1", "b[i] = i + 1*a[i]", "c[i] = 3 + 1*a[i]*b[i-1]", "end"),
        )

    def test_other_names(self):
        self.texts(
            Join(0),
            text("loop i from 0 to 2", "loop j from i, 1 to 2i+4/3, 9", "a[i, j] = i", "end",
                 "loop k from 0 to 2", "loop i from k, 1 to 2k+4/3, 9", "b[k, i] = 2k-i", "end"),
            text("loop i from 0 to 2", "loop j from i, 1 to 2i+4/3, 9", "a[i, j] = i", "b[i, j] = 2i-j", "end"),
        )

    def test_among_others(self):
        texts = [piece(letter, *range(rows)) for letter, rows in zip("abcdef", (1, 2, 3, 2, 1, 4))]
        for number in range(5):
            program = read(text(*texts))
            turning = Join(number)
            new = self.made(turning, program)
            loops, rows = program[number]
            self.assertEqual(len(new), 5)
            self.assertEqual(new[:number], program[:number])
            self.assertEqual(new[number], (loops, rows + program[number + 1][1]))
            self.assertEqual(new[number + 1:], program[number + 2:])
            self.both_ways(turning, program)

    def test_there_and_back(self):
        program = read(text(piece("a", 0), piece("b", 0, 1), piece("c", 0, 1, 2), piece("d", 0), piece("e", 0)))
        turning = Join(1)
        for old, new in (
            ((0, 0, (2,)), (0, 0, (2,))), ((1, 0, (1,)), (1, 0, (1,))), ((1, 1, (1,)), (1, 1, (1,))),
            ((2, 0, (0,)), (1, 2, (0,))), ((2, 2, (0,)), (1, 4, (0,))), ((3, 0, (2,)), (2, 0, (2,))),
            ((4, 0, (2,)), (3, 0, (2,))),
        ):
            self.assertEqual(turning.there(program, old), new)
            self.assertEqual(turning.back(program, new), old)

    def test_no_next_piece(self):
        program = read(text(piece("a", 0), piece("b", 0)))
        self.made(Join(0), program)
        for number in (1, 2, 3, -1, -2, -3, BIG, -SIXTY_NINES, SIXTY_NINES):
            self.no_fit(Join(number), program)
        self.no_fit(Join(0), program[:1])

    def test_another_number_of_loops(self):
        one, two = ("loop i from 0 to 2",), ("loop i from 0 to 2", "loop j from 0 to 2")
        three = two + ("loop k from 0 to 2",)
        for first in (one, two, three):
            for second in (one, two, three):
                program = read(text(piece("a", 0, loops=first), piece("b", 0, loops=second)))
                if first == second:
                    self.made(Join(0), program)
                else:
                    self.no_fit(Join(0), program)

    def test_other_ends(self):
        first = ("loop i from 0, 1 to 5, 6", "loop j from i to 2i+4/3")
        for second in (
            ("loop i from 1, 0 to 5, 6", "loop j from i to 2i+4/3"),
            ("loop i from 0, 1 to 6, 5", "loop j from i to 2i+4/3"),
            ("loop i from 1 to 5", "loop j from i to 2i+4/3"),
            ("loop i from 0, 1 to 5", "loop j from i to 2i+4/3"),
            ("loop i from 0, 1 to 5, 6", "loop j from i+1 to 2i+4/3"),
            ("loop i from 0, 1 to 5, 6", "loop j from i to 4i+8/6"),
            ("loop i from 0, 1 to 5, 6", "loop j from 0 to 2i+4/3"),
            ("loop i from 0, 1 to 5, 7", "loop j from i to 2i+4/3"),
        ):
            program = read(text(piece("a", 0, loops=first), piece("b", 0, loops=second)))
            self.no_fit(Join(0), program)
            self.no_fit(Join(0), program[::-1])
        self.made(Join(0), read(text(piece("a", 0, loops=first), piece("b", 0, loops=first))))

    def test_eight_rows_together(self):
        for ahead in range(1, 9):
            for behind in range(1, 9):
                program = read(text(piece("a", *range(ahead)), piece("b", *range(behind))))
                if ahead + behind <= 8:
                    self.assertEqual(len(self.made(Join(0), program)[0][1]), ahead + behind)
                else:
                    self.no_fit(Join(0), program)


class Parts(Turned):
    def test_two_rows(self):
        self.texts(
            Part(0, 1),
            text("loop i from 0 to 2", "loop j from i to 3/2", "a[i] = 1", "b[i] = i + 1*a[i]", "end"),
            text("loop i from 0 to 2", "loop j from i to 3/2", "a[i] = 1", "end",
                 "loop i from 0 to 2", "loop j from i to 3/2", "b[i] = i + 1*a[i]", "end"),
        )

    def test_each_row(self):
        texts = [piece("a", 0, 1), piece("b", *range(8)), piece("c", 0, 1, 2)]
        for row in range(1, 8):
            program = read(text(*texts))
            turning = Part(1, row)
            new = self.made(turning, program)
            loops, rows = program[1]
            self.assertEqual(new, [program[0], (loops, rows[:row]), (loops, rows[row:]), program[2]])
            self.both_ways(turning, program)

    def test_there_and_back(self):
        program = read(text(piece("a", 0, 1, 2), piece("b", 0, 1, 2, 3), piece("c", 0, 1, 2), piece("d", 0)))
        turning = Part(1, 2)
        for old, new in (
            ((0, 0, (2,)), (0, 0, (2,))), ((0, 2, (2,)), (0, 2, (2,))), ((1, 0, (1,)), (1, 0, (1,))),
            ((1, 1, (1,)), (1, 1, (1,))), ((1, 2, (0,)), (2, 0, (0,))), ((1, 3, (0,)), (2, 1, (0,))),
            ((2, 0, (2,)), (3, 0, (2,))), ((2, 2, (1,)), (3, 2, (1,))), ((3, 0, (1,)), (4, 0, (1,))),
        ):
            self.assertEqual(turning.there(program, old), new)
            self.assertEqual(turning.back(program, new), old)

    def test_no_row_on_one_side(self):
        program = read(text(piece("a", 0, 1, 2), piece("b", 0)))
        for row in (0, 3, 4, -1, -2, -3, BIG, -SIXTY_NINES, SIXTY_NINES):
            self.no_fit(Part(0, row), program)
        for row in (-1, 0, 1, 2):
            self.no_fit(Part(1, row), program)

    def test_no_such_piece(self):
        program = read(text(piece("a", 0, 1, 2), piece("b", 0, 1, 2)))
        for number in (2, 3, -1, -2, -3, BIG, -SIXTY_NINES, SIXTY_NINES):
            self.no_fit(Part(number, 1), program)

    def test_six_pieces(self):
        five = [piece(letter, 0, 1) for letter in "abcde"]
        for number in range(5):
            self.assertEqual(len(self.made(Part(number, 1), read(text(*five)))), 6)
        for number in range(6):
            self.no_fit(Part(number, 1), read(text(*five, piece("f", 0, 1))))


class Both(Turned):
    def test_one_undoes_the_other(self):
        program = read(text(piece("a", 0), piece("b", 0, 1, 2), piece("c", 0)))
        for row in (1, 2):
            parted = Part(1, row).made(program)
            self.assertEqual(Join(1).made(parted), program)
            for doing in ((0, 0, (1,)), (1, 0, (1,)), (1, 1, (1,)), (1, 2, (1,)), (2, 0, (1,))):
                there = Part(1, row).there(program, doing)
                self.assertEqual(Join(1).there(parted, there), doing)

    def test_the_size_is_not_looked_at(self):
        loops = (span("i", 0, BIG), span("j", 0, SIXTY_NINES, 1))
        rows = (row_of(at("a", (1, 2, 0)), (0, 0, 0)), row_of(at("b", (1, 2, 0)), (0, 0, 0)))
        wide = [(loops, rows), (loops, rows)]
        with self.assertRaises(TooMany):
            size_of(wide)
        self.assertEqual(self.made(Join(0), wide), [(loops, rows + rows)])
        self.assertEqual(self.made(Part(1, 1), wide), [wide[0], (loops, rows[:1]), (loops, rows[1:])])
        self.assertEqual(Join(0).there(wide, (1, 0, (BIG, BIG))), (0, 2, (BIG, BIG)))

    def test_drawn(self):
        draw = Draw(290, SMALL)
        seen = {"join": 0, "part": 0}
        for again in range(150):
            program = [draw.small_piece() for number in range(draw.upto(1, 3))]
            number = draw.upto(0, len(program) - 1)
            rows = len(program[number][1])
            if rows > 1:
                turning = Part(number, draw.upto(1, rows - 1))
                self.both_ways(turning, program)
                self.both_ways(Join(number), turning.made(program))
                seen["part"] += 1
            loops = program[number][0]
            other = tuple((name + "x", lows, highs) for name, lows, highs in loops)
            if rows < 8:
                pair = program[:number + 1] + [(other, program[number][1][:8 - rows])] + program[number + 1:]
                self.both_ways(Join(number), pair)
                seen["join"] += 1
        self.assertGreater(min(seen.values()), 10)

    def test_a_told_program_may_be_changed(self):
        program = read(text(piece("a", 0, 1), piece("b", 0, 1)))
        for turning in (Join(0), Part(0, 1), Part(1, 1)):
            new = turning.made(program)
            kept = list(new)
            new.append("more")
            new[0] = None
            self.assertEqual(turning.made(program), kept)
            new.clear()
            self.assertEqual(turning.made(program), kept)
            self.assertEqual(program, read(text(piece("a", 0, 1), piece("b", 0, 1))))

    def test_the_same_behind_a_refusal(self):
        program, alone = read(text(piece("a", 0, 1), piece("b", 0, 1))), read(piece("a", 0))
        for turning in (Join(0), Part(0, 1)):
            new = turning.made(program)
            for again in range(2):
                with self.assertRaises(NoFit):
                    turning.made(alone)
                self.assertEqual(turning.made(program), new)


if __name__ == "__main__":
    unittest.main()
