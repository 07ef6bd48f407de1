"""[23] to [28], and [31] of these: turnings of one piece."""

import unittest

import by_names
from loopturn.errors import NoFit, TooMany
from loopturn.reader import read
from loopturn.runs import size_of
from loopturn.turnings import Back, Shift, Slant, Strips, Swap, Turning
from looked_at import METHODS, Turned, text
from samples import SIXTY_MIXED, SIXTY_NINES, SMALL, Draw, at, row_of, span

BIG = 10 ** 18
KINDS = (Swap, Back, Slant, Shift, Strips)


class Classes(unittest.TestCase):
    def test_all_stand_under_turning(self):
        for kind in KINDS:
            self.assertTrue(issubclass(kind, Turning))
            for other in KINDS:
                self.assertIs(issubclass(kind, other), kind is other)

    def test_each_method_stands_in_its_own_class(self):
        for kind in KINDS + (Turning,):
            for method in METHODS:
                self.assertIn(method, vars(kind))

    def test_made_of_their_numbers(self):
        for turning in (Turning(3), Swap(3, 1), Back(3, 1), Slant(3, 1, 0, 2), Shift(3, 1, 2), Strips(3, 1, 2)):
            self.assertIsInstance(turning, Turning)


class Words(unittest.TestCase):
    def check(self, turning, words):
        for again in range(2):
            self.assertEqual(turning.words(), words)
        self.assertIs(type(turning.words()), str)

    def test_each(self):
        self.check(Swap(0, 1), "swap 0 1")
        self.check(Back(3, 2), "back 3 2")
        self.check(Slant(1, 2, 0, -7), "slant 1 2 0 -7")
        self.check(Shift(5, 0, 12), "shift 5 0 12")
        self.check(Strips(2, 1, 4, "abc"), "strips 2 1 4 abc")

    def test_the_name_t(self):
        self.check(Strips(2, 1, 4), "strips 2 1 4 t")
        self.check(Strips(2, 1, 4, name="s"), "strips 2 1 4 s")
        self.check(Strips(2, 1, 4, "t"), "strips 2 1 4 t")

    def test_numbers(self):
        self.check(Swap(-1, -SIXTY_NINES), "swap -1 -" + "9" * 60)
        self.check(Back(SIXTY_MIXED, -2), "back " + str(SIXTY_MIXED) + " -2")
        self.check(Slant(0, -1, -2, SIXTY_NINES), "slant 0 -1 -2 " + "9" * 60)
        self.check(Shift(0, 0, -SIXTY_MIXED), "shift 0 0 -" + str(SIXTY_MIXED))
        self.check(Shift(0, 0, 0), "shift 0 0 0")
        self.check(Strips(-1, -1, SIXTY_NINES, "z"), "strips -1 -1 " + "9" * 60 + " z")
        self.check(Strips(0, 0, -3, "abcdefgh"), "strips 0 0 -3 abcdefgh")


class Swaps(Turned):
    def test_plain(self):
        self.texts(
            Swap(0, 0),
            text("loop i from 0 to 3", "loop j from 5 to 7", "a[i, 2j] = i+3j-1 + 2*b[j]*b[i-1] + 0*c[i]", "end"),
            text("loop j from 5 to 7", "loop i from 0 to 3", "a[i, 2j] = 3j+i-1 + 2*b[j]*b[i-1] + 0*c[i]", "end"),
        )

    def test_the_example_of_the_text(self):
        self.texts(
            Swap(0, 0),
            text("loop i from 0 to 9", "loop j from i, 2 to 2i+4, 19/2",
                 "a[i, j] = 3i-7 + 2*a[i-1, j]*b[0] + -1*b[j]", "end"),
            text("loop j from 2 to 19/2, 9", "loop i from 0, j-4/2 to 9, j",
                 "a[i, j] = 3i-7 + 2*a[i-1, j]*b[0] + -1*b[j]", "end"),
        )

    def test_weights_of_both_signs(self):
        # Of the lows i-3 gives a high, -2i+1 by 3 a low; of the highs 3i+5 by 2 a low, -i+9 a high.
        self.texts(
            Swap(0, 0),
            text("loop i from -1 to 4", "loop j from i-3, -2i+1/3, -5 to 3i+5/2, -i+9, 20", "a[i, j] = 0", "end"),
            text("loop j from -5, -2 to 20, 8", "loop i from -1, -3j+1/2, 2j-5/3 to 4, j+3, -j+9",
                 "a[i, j] = 0", "end"),
        )

    def test_ends_with_weight_alone(self):
        # Nothing without i is left for j: the box's ends stand alone.
        self.texts(
            Swap(0, 0),
            text("loop i from 0 to 5", "loop j from i to i+2", "a[i, j] = 0", "end"),
            text("loop j from 0 to 7", "loop i from 0, j-2 to 5, j", "a[i, j] = 0", "end"),
        )

    def test_an_equal_end_is_not_put_in_again(self):
        self.texts(
            Swap(0, 0),
            text("loop i from 0 to 5", "loop j from 0, i, 0 to 9, i+4", "a[i, j] = 0", "end"),
            text("loop j from 0, 0 to 9", "loop i from 0, j-4 to 5, j", "a[i, j] = 0", "end"),
        )
        # An end of the same worth that isn't an equal tuple doesn't count.
        self.texts(
            Swap(0, 0),
            text("loop i from 0 to 5", "loop j from 0/2 to 18/2", "a[i, j] = 0", "end"),
            text("loop j from 0/2, 0 to 18/2, 9", "loop i from 0 to 5", "a[i, j] = 0", "end"),
        )
        # The equal one may stand anywhere among them.
        self.texts(
            Swap(0, 0),
            text("loop i from 0 to 5", "loop j from 3, 1 to 7, 9", "a[i, j] = 0", "end"),
            text("loop j from 3, 1 to 7, 9", "loop i from 0 to 5", "a[i, j] = 0", "end"),
        )
        # The low of the box is 4 by the end that names i: none of the others is equal.
        self.texts(
            Swap(0, 0),
            text("loop i from 4 to 5", "loop j from i, 1 to 2i, 11", "a[i, j] = 0", "end"),
            text("loop j from 1, 4 to 11, 10", "loop i from 4, j/2 to 5, j", "a[i, j] = 0", "end"),
        )

    def test_each_as_often_as_it_comes(self):
        self.texts(
            Swap(0, 0),
            text("loop i from 0 to 5", "loop j from i, i to i, i", "a[i, j] = 0", "end"),
            text("loop j from 0 to 5", "loop i from 0, j, j to 5, j, j", "a[i, j] = 0", "end"),
        )

    def test_a_deeper_loop(self):
        self.texts(
            Swap(0, 0),
            text("loop i from 0 to 2", "loop j from 0 to 3", "loop k from i-j to 2i+3j+1/4, 5",
                 "a[i, k] = j + 1*a[j, -k]", "end"),
            text("loop j from 0 to 3", "loop i from 0 to 2", "loop k from -j+i to 3j+2i+1/4, 5",
                 "a[i, k] = j + 1*a[j, -k]", "end"),
        )

    def test_deeper_loops_exchanged(self):
        self.texts(
            Swap(0, 1),
            text("loop i from 0 to 2", "loop j from i to i+3", "loop k from j, 2i, 0 to i+2j, 3i+4, 9",
                 "a[i, j] = k", "end"),
            text("loop i from 0 to 2", "loop k from 2i, 0 to 3i+4, 9", "loop j from i, -i+k/2 to i+3, k",
                 "a[i, j] = k", "end"),
        )

    def test_the_plain_end_of_a_deeper_loop_has_weights_0(self):
        program = read(text("loop i from 1 to 2", "loop j from 0 to 3", "loop k from j to i+j", "a[k] = 0", "end"))
        loops = self.made(Swap(0, 1), program)[0][0]
        self.assertEqual(loops[1], ("k", ((1, (0, 0)),), ((1, (0, 5)),)))
        # An end 0 with a weight for i isn't the plain end.
        program = read(text("loop i from 0 to 0", "loop j from 0 to 3", "loop k from i to i+5", "a[k] = 0", "end"))
        loops = self.made(Swap(0, 1), program)[0][0]
        self.assertEqual(loops[1], ("k", ((1, (1, 0)), (1, (0, 0))), ((1, (1, 5)), (1, (0, 5)))))

    def test_a_low_above_its_high(self):
        self.texts(
            Swap(0, 0),
            text("loop i from 4 to 1", "loop j from i to 2i", "a[i, j] = 0", "end"),
            text("loop j from 4 to 2", "loop i from 4, j/2 to 1, j", "a[i, j] = 0", "end"),
        )

    def test_one_loop_is_not_enough(self):
        program = read(text("loop i from 0 to 2", "a[i] = 0", "end"))
        self.no_fit(Swap(0, 0), program)
        three = read(text("loop i from 0 to 2", "loop j from 0 to 2", "loop k from 0 to 2", "a[i] = 0", "end"))
        self.no_fit(Swap(0, 2), three)
        for number in (0, 1):
            self.made(Swap(0, number), three)


class Backs(Turned):
    def test_one_loop(self):
        self.texts(
            Back(0, 0),
            text("loop i from 1, 5/2 to 9, 31/4", "a[i] = 2i-3 + 4*a[i-1]*b[-2i]", "end"),
            text("loop i from -9, -31/4 to -1, -5/2", "a[-i] = -2i-3 + 4*a[-i-1]*b[2i]", "end"),
        )

    def test_an_outer_loop(self):
        self.texts(
            Back(0, 0),
            text("loop i from 0 to 3", "loop j from i, -2i to 2i+4", "a[i+j, j] = 0", "end"),
            text("loop i from -3 to 0", "loop j from -i, 2i to -2i+4", "a[-i+j, j] = 0", "end"),
        )

    def test_an_inner_loop(self):
        self.texts(
            Back(0, 1),
            text("loop i from 0 to 3", "loop j from i, 2 to 2i+4/3", "loop k from j to i+j", "a[i-j, k] = j", "end"),
            text("loop i from 0 to 3", "loop j from -2i-4/3 to -i, -2", "loop k from -j to i-j",
                 "a[i+j, k] = -j", "end"),
        )

    def test_twice_is_the_program_again(self):
        program = read(text("loop i from 0 to 3", "loop j from i, 2 to 2i+4/3", "a[i-j, j] = j", "end"))
        for number in (0, 1):
            turning = Back(0, number)
            self.assertEqual(turning.made(turning.made(program)), program)


class Slants(Turned):
    def test_right_outside(self):
        self.texts(
            Slant(0, 1, 0, 3),
            text("loop i from 0 to 2", "loop j from i, 1/2 to 2i+4, 19/5", "a[i, j] = 2j+1 + 1*b[i-j]", "end"),
            text("loop i from 0 to 2", "loop j from 4i, 6i+1/2 to 5i+4, 15i+19/5",
                 "a[i, -3i+j] = -6i+2j+1 + 1*b[4i-j]", "end"),
        )

    def test_two_farther_out(self):
        self.texts(
            Slant(0, 2, 0, -2),
            text("loop i from 0 to 2", "loop j from 0 to 1", "loop k from i+j to 9/3", "a[k, j] = i+k", "end"),
            text("loop i from 0 to 2", "loop j from 0 to 1", "loop k from -i+j to -6i+9/3",
                 "a[2i+k, j] = 3i+k", "end"),
        )
        self.texts(
            Slant(0, 2, 1, 5),
            text("loop i from 0 to 2", "loop j from 0 to 1", "loop k from i+j to 9/3", "a[k, j] = i+k", "end"),
            text("loop i from 0 to 2", "loop j from 0 to 1", "loop k from i+6j to 15j+9/3",
                 "a[-5j+k, j] = i-5j+k", "end"),
        )

    def test_deeper_ends(self):
        self.texts(
            Slant(0, 1, 0, 1),
            text("loop i from 0 to 2", "loop j from 0 to 3", "loop k from 2j to i+3j, 7/2", "a[k] = 0", "end"),
            text("loop i from 0 to 2", "loop j from i to i+3", "loop k from -2i+2j to -2i+3j, 7/2",
                 "a[k] = 0", "end"),
        )

    def test_by_0(self):
        old = text("loop i from 0 to 2", "loop j from 0 to 3", "a[i+j] = 0", "end")
        self.texts(Slant(0, 1, 0, 0), old, old)

    def test_there_and_back_again(self):
        program = read(text("loop i from 0 to 2", "loop j from i to 3", "a[i+j] = 0", "end"))
        self.assertEqual(Slant(0, 1, 0, -7).made(Slant(0, 1, 0, 7).made(program)), program)

    def test_outer_is_no_loop_outside(self):
        program = read(text("loop i from 0 to 2", "loop j from 0 to 2", "loop k from 0 to 2", "a[i] = 0", "end"))
        for number, outer in ((0, 0), (0, 1), (0, -1), (1, 1), (1, 2), (1, -1), (2, 2), (2, 3), (2, -1), (2, -3),
                              (2, BIG), (1, -SIXTY_NINES)):
            self.no_fit(Slant(0, number, outer, 1), program)
        for number, outer in ((1, 0), (2, 0), (2, 1)):
            self.made(Slant(0, number, outer, 1), program)


class Shifts(Turned):
    def test_one_loop(self):
        self.texts(
            Shift(0, 0, 4),
            text("loop i from 1, 5/2 to 9, 31/4", "a[i] = 2i-3 + 4*a[i-1]*b[-2i]", "end"),
            text("loop i from 5, 13/2 to 13, 47/4", "a[i-4] = 2i-11 + 4*a[i-5]*b[-2i+8]", "end"),
        )

    def test_deeper_ends(self):
        self.texts(
            Shift(0, 0, -3),
            text("loop i from 0 to 2", "loop j from i, 2i+1/3 to 7", "a[i, j] = 5i", "end"),
            text("loop i from -3 to -1", "loop j from i+3, 2i+7/3 to 7", "a[i+3, j] = 5i+15", "end"),
        )

    def test_an_inner_loop(self):
        self.texts(
            Shift(0, 1, 10),
            text("loop i from 0 to 2", "loop j from i to 2i+1/3", "loop k from j to 2j", "a[i, j] = k", "end"),
            text("loop i from 0 to 2", "loop j from i+10 to 2i+31/3", "loop k from j-10 to 2j-20",
                 "a[i, j-10] = k", "end"),
        )

    def test_there_and_back_again(self):
        program = read(text("loop i from 0 to 2", "loop j from i to 3/2", "a[i+j] = 0", "end"))
        for number in (0, 1):
            self.assertEqual(Shift(0, number, SIXTY_NINES).made(Shift(0, number, -SIXTY_NINES).made(program)), program)
            self.assertEqual(Shift(0, number, 0).made(program), program)


class Stripped(Turned):
    def test_one_loop(self):
        self.texts(
            Strips(0, 0, 4),
            text("loop i from 1, 5/2 to 9, 31/3", "a[i] = 2i-3 + 4*a[i-1]*b[0]", "end"),
            text("loop t from -2/4, -1/8 to 9/4, 31/12", "loop i from 1, 5/2, 4t to 9, 31/3, 4t+3",
                 "a[i] = 2i-3 + 4*a[i-1]*b[0]", "end"),
        )

    def test_the_outer_one_of_two(self):
        self.texts(
            Strips(0, 0, 2, "s"),
            text("loop i from 0 to 5", "loop j from i to 2i+1", "a[i, j] = i-j", "end"),
            text("loop s from -1/2 to 5/2", "loop i from 0, 2s to 5, 2s+1", "loop j from i to 2i+1",
                 "a[i, j] = i-j", "end"),
        )

    def test_the_inner_one_of_two(self):
        self.texts(
            Strips(0, 1, 3, name="abc"),
            text("loop i from 0 to 5", "loop j from i to 2i+1/2", "a[i, j] = i-j", "end"),
            text("loop i from 0 to 5", "loop abc from i-2/3 to 2i+1/6", "loop j from i, 3abc to 2i+1/2, 3abc+2",
                 "a[i, j] = i-j", "end"),
        )

    def test_values_below_0(self):
        program = read(text("loop i from -7 to 3", "a[i] = 0", "end"))
        turning = Strips(0, 0, 4)
        told = [turning.there(program, (0, 0, (value,)))[2] for value in range(-7, 4)]
        self.assertEqual(told, [
            (-2, -7), (-2, -6), (-2, -5), (-1, -4), (-1, -3), (-1, -2), (-1, -1), (0, 0), (0, 1), (0, 2), (0, 3),
        ])
        self.both_ways(turning, program)

    def test_very_wide(self):
        self.texts(
            Strips(0, 0, BIG),
            text("loop i from -2 to 3", "a[i] = 0", "end"),
            text(f"loop t from {-1 - BIG}/{BIG} to 3/{BIG}", f"loop i from -2, {BIG}t to 3, {BIG}t+{BIG - 1}",
                 "a[i] = 0", "end"),
        )

    def test_the_table_may_have_the_name(self):
        self.made(Strips(0, 0, 2), read(text("loop i from 0 to 3", "t[i] = 0", "end")))

    def test_the_name_may_stand_in_another_piece(self):
        program = read(text("loop t from 0 to 3", "a[t] = 0", "end", "loop i from 0 to 3", "a[i] = 0", "end"))
        self.made(Strips(1, 0, 2), program)
        self.no_fit(Strips(0, 0, 2), program)

    def test_no_fit(self):
        program = read(text("loop i from 0 to 2", "loop j from 0 to 2", "a[i] = 0", "end"))
        for wide in (1, 0, -1, -2, -SIXTY_NINES):
            self.no_fit(Strips(0, 0, wide), program)
        for name in ("i", "j"):
            for number in (0, 1):
                self.no_fit(Strips(0, number, 2, name), program)
                self.no_fit(Strips(0, number, 2, name=name), program)
        self.made(Strips(0, 0, 2, "k"), program)
        three = read(text("loop i from 0 to 2", "loop j from 0 to 2", "loop k from 0 to 2", "a[i] = 0", "end"))
        for number in (0, 1, 2):
            self.no_fit(Strips(0, number, 2), three)


def some_turnings(draw, piece, loops):
    """One of each kind, that may fit or not."""
    at_number = draw.upto(0, loops - 1)
    far = draw.source.choice(draw.numbers)
    return (
        Swap(piece, at_number), Back(piece, at_number), Slant(piece, at_number, draw.upto(0, loops - 1), far),
        Shift(piece, at_number, far), Strips(piece, at_number, draw.source.choice((2, 3, 4, 7, BIG))),
    )


class Drawn(Turned):
    def expected(self, turning, program):
        """The new program by names, or None where the turning doesn't fit."""
        loops = program[turning.piece][0]
        numbers = turning.words().split(" ")[2:]
        if isinstance(turning, Strips):
            fits = len(loops) < 3
        elif isinstance(turning, Slant):
            fits = int(numbers[1]) < int(numbers[0])
        elif isinstance(turning, Swap):
            fits = int(numbers[0]) + 1 < len(loops)
        else:
            fits = True
        if not fits:
            return None
        change = getattr(by_names, turning.words().split(" ")[0])
        arguments = [int(number) if number != "t" else number for number in numbers]
        new = list(program)
        new[turning.piece] = change(program[turning.piece], *arguments)
        return new

    def check(self, turning, program):
        expected = self.expected(turning, program)
        if expected is None:
            self.no_fit(turning, program)
        else:
            self.assertEqual(self.made(turning, program), expected)
        return expected is not None

    def test_by_names(self):
        draw = Draw(230)
        fitted = [0] * 5
        for again in range(300):
            program = draw.program()
            piece = draw.upto(0, len(program) - 1)
            for kind, turning in enumerate(some_turnings(draw, piece, len(program[piece][0]))):
                fitted[kind] += self.check(turning, program)
        self.assertGreater(min(fitted), 20)

    def test_both_ways(self):
        draw = Draw(231, SMALL)
        fitted = [0] * 5
        for again in range(120):
            program = [draw.small_piece() for piece in range(draw.upto(1, 3))]
            piece = draw.upto(0, len(program) - 1)
            for kind, turning in enumerate(some_turnings(draw, piece, len(program[piece][0]))):
                if self.check(turning, program):
                    self.both_ways(turning, program)
                    fitted[kind] += 1
        self.assertGreater(min(fitted), 8)


class Fit(Turned):
    """What holds for all five."""

    two = text("loop i from 0 to 2", "loop j from 0 to 2", "a[i] = 0", "end")

    def turnings(self, piece, number):
        return (Swap(piece, number), Back(piece, number), Slant(piece, number, 0, 1), Shift(piece, number, 1),
                Strips(piece, number, 2))

    def test_no_such_piece(self):
        program = read(text(self.two, self.two))
        for piece in (-1, -2, -3, 2, 3, BIG, SIXTY_NINES, -SIXTY_NINES):
            for turning in self.turnings(piece, 0) + self.turnings(piece, 1):
                self.no_fit(turning, program)

    def test_no_such_loop(self):
        program = read(text(self.two, self.two))
        for number in (-1, -2, -3, 2, 3, BIG, SIXTY_NINES, -SIXTY_NINES):
            for turning in self.turnings(1, number):
                self.no_fit(turning, program)

    def test_the_loops_of_that_piece_count(self):
        one = text("loop i from 0 to 2", "a[i] = 0", "end")
        program = read(text(one, self.two))
        for turning in self.turnings(0, 1):
            self.no_fit(turning, program)
        for turning in self.turnings(1, 1)[1:]:
            self.made(turning, program)

    def test_other_pieces_stay(self):
        program = read(text(self.two, self.two.replace("a", "b"), self.two))
        for piece in range(3):
            for turning in (Swap(piece, 0), Back(piece, 0), Slant(piece, 1, 0, 1), Shift(piece, 0, 1),
                            Strips(piece, 0, 2)):
                new = self.made(turning, program)
                self.assertEqual(len(new), 3)
                for other in range(3):
                    self.assertIs(new[other] == program[other], other != piece)
                for doing in ((0, 0, (1, 2)), (1, 0, (1, 2)), (2, 0, (1, 2))):
                    if doing[0] != piece:
                        self.assertEqual(turning.there(program, doing), doing)
                        self.assertEqual(turning.back(program, doing), doing)
                    else:
                        self.assertNotEqual(turning.there(program, doing), doing)
                self.both_ways(turning, program)

    def test_the_size_is_not_looked_at(self):
        wide = [((span("i", 0, BIG), span("j", 0, SIXTY_NINES, 1)), (row_of(at("a", (1, 2, 0)), (0, 0, 0)),))]
        with self.assertRaises(TooMany):
            size_of(wide)
        for turning, turn, new in (
            (Swap(0, 0), (7, 5), (5, 7)), (Back(0, 0), (7, 5), (-7, 5)), (Slant(0, 1, 0, 3), (7, 5), (7, 26)),
            (Shift(0, 1, -BIG), (7, 5), (7, 5 - BIG)), (Strips(0, 0, 3), (7, 5), (2, 7, 5)),
        ):
            self.made(turning, wide)
            self.assertEqual(turning.there(wide, (0, 0, turn)), (0, 0, new))
            self.assertEqual(turning.back(wide, (0, 0, new)), (0, 0, turn))

    def test_sixty_figures(self):
        low, high = -SIXTY_NINES, SIXTY_MIXED
        loops = (span("i", low, high), ("j", ((SIXTY_MIXED, (SIXTY_NINES, low)),), ((1, (low, high)),)))
        program = [(loops, (row_of(at("a", (SIXTY_NINES, low, high)), (0, 0, 0)),))]
        self.assertEqual(self.made(Slant(0, 1, 0, SIXTY_NINES), program), [
            ((loops[0], ("j", ((SIXTY_MIXED, (SIXTY_NINES + SIXTY_MIXED * SIXTY_NINES, low)),),
                         ((1, (low + SIXTY_NINES, high)),))),
             (row_of(at("a", (SIXTY_NINES - SIXTY_NINES * low, low, high)), (0, 0, 0)),)),
        ])
        self.assertEqual(self.made(Strips(0, 1, SIXTY_NINES), program)[0][0][1], (
            "t", ((SIXTY_MIXED * SIXTY_NINES, (SIXTY_NINES, low - SIXTY_MIXED * (SIXTY_NINES - 1))),),
            ((SIXTY_NINES, (low, high)),),
        ))
        self.assertEqual(self.made(Swap(0, 0), program)[0][0][1], (
            "i", ((1, (0, low)),), ((1, (0, high)), (SIXTY_NINES, (SIXTY_MIXED, -low)), (-low, (-1, high))),
        ))

    def test_used_on_two_programs(self):
        one, other = read(self.two), read(self.two.replace("2", "5").replace("a[i]", "b[j]"))
        for turning in (Swap(0, 0), Back(0, 1), Slant(0, 1, 0, 2), Shift(0, 1, 3), Strips(0, 1, 2)):
            first, second = turning.made(one), turning.made(other)
            self.assertNotEqual(first, second)
            self.assertEqual((turning.made(one), turning.made(other)), (first, second))

    def test_a_told_program_may_be_changed(self):
        program = read(text(self.two, self.two))
        for turning in (Swap(0, 0), Back(0, 1), Slant(0, 1, 0, 2), Shift(0, 1, 3), Strips(0, 1, 2)):
            new = turning.made(program)
            kept = list(new)
            new.append("more")
            new[0] = None
            self.assertEqual(turning.made(program), kept)
            new.clear()
            self.assertEqual(turning.made(program), kept)
            self.assertEqual(program, read(text(self.two, self.two)))

    def test_the_same_behind_a_refusal(self):
        program = read(self.two)
        turning = Swap(0, 0)
        new = turning.made(program)
        one = read(text("loop i from 0 to 2", "a[i] = 0", "end"))
        for again in range(2):
            with self.assertRaises(NoFit):
                turning.made(one)
            self.assertEqual(turning.made(program), new)


if __name__ == "__main__":
    unittest.main()
