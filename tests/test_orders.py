"""[32] and [33], and what [3] promises of both: what may be turned, and what may go side by side."""

import copy
import unittest

from by_names import all_doings, cells_at
from loopturn.errors import LoopError, NoFit, OutOfOrder, TooMany
from loopturn.joins import Join, Part
from loopturn.orders import beside, clash, turned
from loopturn.reader import read
from loopturn.runs import done_in, run
from loopturn.turnings import Back, Shift, Slant, Strips, Swap
from looked_at import text
from samples import SIXTY_NINES, SMALL, Draw, at, at_once, row_of, span

BIG = 10 ** 18


def in_touch(program, one, other):
    """Whether two doings touch, by their cells."""
    written, used = cells_at(program, one)
    other_written, other_used = cells_at(program, other)
    return written == other_written or written in other_used or other_written in used


def first_clash(program, turning):
    """The clash by going through all pairs of doings; the new order is told by where the new doings stand."""
    doings = all_doings(program)
    stands = {doing: number for number, doing in enumerate(all_doings(turning.made(program)))}
    for here, one in enumerate(doings):
        for other in doings[here + 1:]:
            if stands[turning.there(program, one)] > stands[turning.there(program, other)]:
                if in_touch(program, one, other):
                    return (one, other)
    return None


def first_beside(program, piece, number):
    """The first two doings that keep a loop from going side by side, by going through all pairs."""
    doings = [doing for doing in all_doings(program) if doing[0] == piece]
    for here, one in enumerate(doings):
        for other in doings[here + 1:]:
            turn, there = one[2], other[2]
            if turn[:number] == there[:number] and turn[number] != there[number] and in_touch(program, one, other):
                return (one, other)
    return None


def size_by_hand(program):
    """The size of a program of few values."""
    size = 0
    for loops, rows in program:
        for deep in range(1, len(loops) + 1):
            turns = len(all_doings([(loops[:deep], rows[:1])]))
            size += turns
        size += turns * len(rows)
    return size


class Asked(unittest.TestCase):
    def check(self, program, turning, pair):
        """The clash, and what turning the program tells or refuses then."""
        kept, fields = copy.deepcopy(program), dict(vars(turning))
        with self.subTest(turning=turning.words()):
            told = clash(program, turning)
            self.assertEqual(told, pair)
            self.assertEqual(clash(program, turning), pair)
            if pair is None:
                self.assertIsNone(told)
                new = turned(program, turning)
                self.assertIs(type(new), list)
                self.assertEqual(new, turning.made(program))
            else:
                self.assertEqual([type(thing) for thing in (told,) + told], [tuple] * 3)
                with self.assertRaises(OutOfOrder) as caught:
                    turned(program, turning)
                self.assertIsInstance(caught.exception, LoopError)
                self.assertEqual((caught.exception.first, caught.exception.second), pair)
            self.assertEqual(program, kept)
            self.assertEqual(vars(turning), fields)

    def refused(self, error, program, turning):
        kept = copy.deepcopy(program)
        with self.subTest(turning=turning.words()):
            for ask in (clash, turned):
                with at_once(), self.assertRaises(error) as caught:
                    ask(program, turning)
                self.assertIs(type(caught.exception), error)
            self.assertEqual(program, kept)


def nest(row, *more, low=1, high=3):
    return read(text(f"loop i from {low} to {high}", f"loop j from {low} to {high}", row, *more, "end"))


class Exchanges(Asked):
    def test_let_by(self):
        self.check(nest("a[i, j] = 1 + 2*a[i-1, j-1]"), Swap(0, 0), None)
        self.check(nest("a[i, j] = 1 + 2*a[i-1, j]"), Swap(0, 0), None)
        self.check(nest("a[i, j] = 1 + 2*a[i, j-1]"), Swap(0, 0), None)
        self.check(nest("a[i, j] = 1 + 2*b[i-1, j+1]"), Swap(0, 0), None)

    def test_refused(self):
        # What (1, 2) writes is read by (2, 1), which would come ahead.
        self.check(nest("a[i, j] = 1 + 2*a[i-1, j+1]"), Swap(0, 0), ((0, 0, (1, 2)), (0, 0, (2, 1))))
        # Here it is read first and written behind.
        self.check(nest("a[i, j] = 1 + 2*a[i+1, j-1]"), Swap(0, 0), ((0, 0, (1, 2)), (0, 0, (2, 1))))
        # Both write it.
        self.check(nest("a[i+j] = i"), Swap(0, 0), ((0, 0, (1, 2)), (0, 0, (2, 1))))
        self.check(nest("a[0] = i"), Swap(0, 0), ((0, 0, (1, 2)), (0, 0, (2, 1))))
        # A weight of 0 is read all the same.
        self.check(nest("a[i, j] = 1 + 0*a[i-1, j+1]"), Swap(0, 0), ((0, 0, (1, 2)), (0, 0, (2, 1))))

    def test_the_first_one_and_then_the_first_other(self):
        # (1, 3) touches (2, 2) and (3, 1); (1, 2) touches (2, 1).
        self.check(nest("a[i+j] = i", low=1, high=4), Swap(0, 0), ((0, 0, (1, 2)), (0, 0, (2, 1))))
        self.check(nest("a[i, j] = 1 + 1*a[i-2, j+1] + 1*a[i-1, j+2]"), Swap(0, 0),
                   ((0, 0, (1, 2)), (0, 0, (3, 1))))
        self.check(nest("a[i, j] = 1 + 1*a[i-1, j+2]"), Swap(0, 0), ((0, 0, (1, 3)), (0, 0, (2, 1))))

    def test_two_rows(self):
        # b at (i, j) reads what a wrote at (i - 1, j + 1).
        program = nest("a[i, j] = 1", "b[i, j] = 2 + 1*a[i-1, j+1]")
        self.check(program, Swap(0, 0), ((0, 0, (1, 2)), (0, 1, (2, 1))))
        program = nest("b[i, j] = 2 + 1*a[i+1, j-1]", "a[i, j] = 1")
        self.check(program, Swap(0, 0), ((0, 0, (1, 2)), (0, 1, (2, 1))))

    def test_only_doings_that_are_there(self):
        # With one value of i, or of j, no two are turned.
        for first, second in (("0 to 0", "0 to 5"), ("0 to 5", "0 to 0"), ("0 to 5", "1 to 0")):
            program = read(text("loop i from " + first, "loop j from " + second, "a[0] = i+j", "end"))
            self.check(program, Swap(0, 0), None)


class Backwards(Asked):
    def test_one_loop(self):
        one = text("loop i from 1 to 4", "{}", "end")
        self.check(read(one.format("a[i] = 1 + 2*a[i-1]")), Back(0, 0), ((0, 0, (1,)), (0, 0, (2,))))
        self.check(read(one.format("a[i] = 1 + 2*a[i+2]")), Back(0, 0), ((0, 0, (1,)), (0, 0, (3,))))
        self.check(read(one.format("a[i] = 1 + 2*a[-i+6]")), Back(0, 0), ((0, 0, (2,)), (0, 0, (4,))))
        self.check(read(one.format("a[i] = 1 + 2*a[i]")), Back(0, 0), None)
        self.check(read(one.format("a[i] = 1 + 2*a[i+4]")), Back(0, 0), None)
        self.check(read(one.format("a[i] = 1 + 2*b[0]")), Back(0, 0), None)
        self.check(read(one.format("b[0] = i")), Back(0, 0), ((0, 0, (1,)), (0, 0, (2,))))

    def test_two_loops(self):
        self.check(nest("a[i, j] = 1 + 2*a[i-1, j]"), Back(0, 1), None)
        self.check(nest("a[i, j] = 1 + 2*a[i-1, j]"), Back(0, 0), ((0, 0, (1, 1)), (0, 0, (2, 1))))
        self.check(nest("a[i, j] = 1 + 2*a[i, j-1]"), Back(0, 0), None)
        self.check(nest("a[i, j] = 1 + 2*a[i, j-1]"), Back(0, 1), ((0, 0, (1, 1)), (0, 0, (1, 2))))
        self.check(nest("a[i, j] = 1 + 2*a[i-1, j-1]"), Back(0, 1), None)

    def test_rows_of_one_turn_keep_their_order(self):
        program = read(text("loop i from 1 to 4", "a[i] = 1", "b[i] = 2 + 1*a[i]", "a[i] = 3 + 1*b[i]", "end"))
        self.check(program, Back(0, 0), None)

    def test_the_pieces_keep_their_order(self):
        one = text("loop i from 1 to 4", "a[i] = 1 + 1*b[i]", "end")
        program = read(text(one, one.replace("a[i]", "b[i]").replace("*b[i]", "*a[i]")))
        for number in (0, 1):
            self.check(program, Back(number, 0), None)

    def test_a_second_piece(self):
        program = read(text("loop i from 1 to 4", "b[i] = 1 + 1*b[i-1]", "end",
                            "loop i from 1 to 4", "a[i] = 1 + 1*a[i-1]", "end"))
        self.check(program, Back(1, 0), ((1, 0, (1,)), (1, 0, (2,))))


class NothingTurned(Asked):
    def test_rows_that_touch(self):
        for row in ("a[i, j] = 1 + 2*a[i-1, j+1]", "a[i+j] = 1 + 2*a[i-j]", "a[0] = i + 3*a[0]"):
            for high in (1, 3, 5):
                program = nest(row, "b[j] = 1 + 1*a[i, j]*b[j-1]", high=high)
                for turning in (
                    Shift(0, 0, 5), Shift(0, 1, -7), Shift(0, 1, BIG), Slant(0, 1, 0, 3), Slant(0, 1, 0, -BIG),
                    Strips(0, 0, 2), Strips(0, 1, 2), Strips(0, 1, BIG), Strips(0, 0, 3, "k"),
                ):
                    self.check(program, turning, None)


class JoinsAndParts(Asked):
    def test_joins(self):
        def two(row, other):
            return read(text("loop i from 1 to 3", row, "end", "loop j from 1 to 3", other, "end"))

        self.check(two("a[i] = 1", "b[j] = 2 + 1*a[j]"), Join(0), None)
        self.check(two("a[i] = 1", "b[j] = 2 + 1*a[j-1]"), Join(0), None)
        self.check(two("a[i] = 1", "b[j] = 2 + 1*a[j+1]"), Join(0), ((0, 0, (2,)), (1, 0, (1,))))
        self.check(two("a[i] = 1 + 1*b[i-2]", "b[j] = 2"), Join(0), ((0, 0, (3,)), (1, 0, (1,))))
        self.check(two("a[0] = i", "a[0] = 2j"), Join(0), ((0, 0, (2,)), (1, 0, (1,))))

    def test_parts(self):
        def one(row, other):
            return read(text("loop i from 1 to 3", row, other, "end"))

        self.check(one("a[i] = 1", "b[i] = 2 + 1*a[i]"), Part(0, 1), None)
        self.check(one("a[i] = 1", "b[i] = 2 + 1*a[i-1]"), Part(0, 1), None)
        # The second row at 1 reads a[2] ahead of the first row at 2, which writes it.
        self.check(one("a[i] = 1", "b[i] = 2 + 1*a[i+1]"), Part(0, 1), ((0, 1, (1,)), (0, 0, (2,))))
        self.check(one("a[i] = 1 + 1*b[i-2]", "b[i] = 2"), Part(0, 1), ((0, 1, (1,)), (0, 0, (3,))))
        self.check(one("a[0] = i", "a[0] = 2i"), Part(0, 1), ((0, 1, (1,)), (0, 0, (2,))))


def wide(count, row="a[i] = 1 + 1*a[i-1]"):
    return read(text(f"loop i from 1 to {count}", row, "end"))


class Refusals(Asked):
    def test_no_fit_ahead_of_too_many(self):
        many = wide(BIG)
        for turning in (Swap(0, 0), Back(1, 0), Back(0, 1), Back(-1, 0), Back(0, -1), Slant(0, 0, 0, 1),
                        Shift(0, 3, 1), Strips(0, 0, 1), Strips(0, 0, 2, "i"), Join(0), Part(0, 1),
                        Back(SIXTY_NINES, 0), Part(0, -1), Join(-1)):
            self.refused(NoFit, many, turning)

    def test_too_many_ahead_of_the_order(self):
        self.check(wide(500), Back(0, 0), ((0, 0, (1,)), (0, 0, (2,))))
        for count in (501, 1001, BIG, SIXTY_NINES):
            self.refused(TooMany, wide(count), Back(0, 0))
            self.refused(TooMany, wide(count), Shift(0, 0, 1))

    def test_the_new_size_alone(self):
        # 500 values and 500 doings are 1000; the strips count as well.
        self.refused(TooMany, wide(500), Strips(0, 0, 2))
        self.refused(TooMany, wide(500), Strips(0, 0, BIG))
        # 499 + 499, and two strips at most: from 1 to 499, 500 wide, there are the strips 0 and no more.
        self.check(wide(499), Strips(0, 0, 500), None)
        self.refused(TooMany, wide(499), Strips(0, 0, 100))
        # Behind the exchange the values of the box of j stand outside: 300 here, and 1010 of which 30 have an i.
        program = read(text("loop i from 1 to 300", "loop j from i, 1 to i, 300", "a[i, j] = 1", "end"))
        self.check(program, Swap(0, 0), None)
        program = read(text("loop i from 1 to 3", "loop j from 1, 500i-499 to 500i-490", "a[i, j] = 1", "end"))
        self.refused(TooMany, program, Swap(0, 0))

    def test_the_old_size_alone(self):
        # Two pieces of 300 values and 300 doings each; joined 300 values and 600 doings.
        two = text("loop i from 1 to 300", "a[i] = 1", "end")
        program = read(text(two, two))
        self.refused(TooMany, program, Join(0))
        half = read(text(two, two).replace("300", "250"))
        self.check(half, Join(0), None)
        half = read(text(two, two).replace("300", "251"))
        self.refused(TooMany, half, Join(0))

    def test_parted_it_is_too_many(self):
        # 300 values and 600 doings are 900; parted there are 300 values more.
        program = read(text("loop i from 1 to 300", "a[i] = 1", "b[i] = 2", "end"))
        self.refused(TooMany, program, Part(0, 1))

    def test_very_many_values_in_another_piece(self):
        program = wide(3) + wide(BIG)
        self.refused(TooMany, program, Back(0, 0))
        self.refused(NoFit, program, Back(0, 1))

    def test_in_reasonable_time(self):
        # 111 values and 888 doings, no two of which touch but in one turn.
        rows = [f"{letter}[i] = 0" + f" + 1*{letter}[i]*{letter}[i]" * 4 for letter in "abcdefgh"]
        program = read(text("loop i from 1 to 111", *rows, "end"))
        with at_once():
            self.check(program, Back(0, 0), None)


def drawn_turning(draw, program):
    """One of the seven kinds, that may fit or not."""
    piece = draw.upto(0, len(program) - 1)
    loops, rows = program[piece]
    number, far = draw.upto(0, len(loops) - 1), draw.upto(-3, 3)
    return draw.source.choice((
        Swap(piece, number), Swap(piece, 0), Back(piece, number), Slant(piece, number, 0, far),
        Shift(piece, number, far), Strips(piece, number, draw.upto(2, 4)), Join(piece),
        Part(piece, draw.upto(1, max(1, len(rows) - 1))),
    ))


class Drawn(Asked):
    def test_by_going_through_all(self):
        draw = Draw(320, SMALL)
        seen = {}
        for again in range(700):
            program = draw.sparse_program()
            turning = drawn_turning(draw, program)
            kind = turning.words().split(" ")[0]
            try:
                new = turning.made(program)
            except NoFit:
                self.refused(NoFit, program, turning)
                continue
            if max(size_by_hand(program), size_by_hand(new)) > 1000:
                self.refused(TooMany, program, turning)
                continue
            pair = first_clash(program, turning)
            self.check(program, turning, pair)
            seen[kind, pair is None] = seen.get((kind, pair is None), 0) + 1
            if pair is None:
                for start in ({}, draw.tables(), {("a", (n,)): 5 * n + 1 for n in range(4)}):
                    self.assertEqual(run(turned(program, turning), start), run(program, start))
            else:
                one, other = pair
                doings, new_doings = all_doings(program), all_doings(new)
                self.assertTrue(in_touch(program, one, other))
                self.assertLess(doings.index(one), doings.index(other))
                self.assertGreater(
                    new_doings.index(turning.there(program, one)), new_doings.index(turning.there(program, other)),
                )
        for kind in ("swap", "back", "join", "part"):
            for let_by in (True, False):
                self.assertGreater(seen.get((kind, let_by), 0), 0, (kind, let_by, seen))
        for kind in ("slant", "shift", "strips"):
            self.assertGreater(seen[kind, True], 3)
            self.assertNotIn((kind, False), seen)


class Beside(unittest.TestCase):
    def check(self, program, piece, number, pair):
        kept = copy.deepcopy(program)
        with self.subTest(piece=piece, number=number):
            for again in range(2):
                told = beside(program, piece, number)
                self.assertEqual(told, pair)
            if pair is not None:
                self.assertEqual([type(thing) for thing in (told,) + told], [tuple] * 3)
            self.assertEqual(program, kept)

    def refused(self, error, program, piece, number):
        with self.subTest(piece=piece, number=number):
            with at_once(), self.assertRaises(error) as caught:
                beside(program, piece, number)
            self.assertIs(type(caught.exception), error)

    def test_one_loop(self):
        self.check(wide(4, "a[i] = 1"), 0, 0, None)
        self.check(wide(4, "a[i] = 1 + 1*a[i]"), 0, 0, None)
        self.check(wide(4, "a[i] = 1 + 1*a[i-1]"), 0, 0, ((0, 0, (1,)), (0, 0, (2,))))
        self.check(wide(4, "a[i] = 1 + 1*a[i+2]"), 0, 0, ((0, 0, (1,)), (0, 0, (3,))))
        self.check(wide(4, "a[i] = 1 + 0*a[i+3]"), 0, 0, ((0, 0, (1,)), (0, 0, (4,))))
        self.check(wide(4, "a[i] = 1 + 1*a[i+4]"), 0, 0, None)
        self.check(wide(4, "a[0] = i"), 0, 0, ((0, 0, (1,)), (0, 0, (2,))))
        self.check(wide(1, "a[0] = i"), 0, 0, None)
        self.check(wide(0, "a[0] = i"), 0, 0, None)

    def test_two_loops(self):
        down = nest("a[i, j] = 1 + 2*a[i-1, j]")
        self.check(down, 0, 0, ((0, 0, (1, 1)), (0, 0, (2, 1))))
        self.check(down, 0, 1, None)
        along = nest("a[i, j] = 1 + 2*a[i, j-1]")
        self.check(along, 0, 0, None)
        self.check(along, 0, 1, ((0, 0, (1, 1)), (0, 0, (1, 2))))
        aslant = nest("a[i, j] = 1 + 2*a[i-1, j+1]")
        # Deeper values may be unlike: (1, 2) and (2, 1).
        self.check(aslant, 0, 0, ((0, 0, (1, 2)), (0, 0, (2, 1))))
        self.check(aslant, 0, 1, None)

    def test_three_loops(self):
        program = read(text("loop i from 1 to 2", "loop j from 1 to 2", "loop k from 1 to 2",
                            "a[i, k] = j", "end"))
        self.check(program, 0, 0, None)
        self.check(program, 0, 1, ((0, 0, (1, 1, 1)), (0, 0, (1, 2, 1))))
        self.check(program, 0, 2, None)

    def test_two_rows(self):
        program = wide(4, text("a[i] = 1", "b[i] = 2 + 1*a[i-1]"))
        self.check(program, 0, 0, ((0, 0, (1,)), (0, 1, (2,))))
        program = wide(4, text("a[i] = 1", "b[i] = 2 + 1*a[i]", "a[i] = 3"))
        self.check(program, 0, 0, None)
        # The first one is the second row at 1; its first other one is the first row at 2.
        program = wide(4, text("c[i] = 1 + 1*b[i-1]", "b[i] = 2"))
        self.check(program, 0, 0, ((0, 1, (1,)), (0, 0, (2,))))

    def test_only_that_piece(self):
        program = wide(3, "a[i] = 1") + wide(3, "a[i] = 2 + 1*a[i-1]") + wide(3, "a[i] = 1")
        self.check(program, 0, 0, None)
        self.check(program, 1, 0, ((1, 0, (1,)), (1, 0, (2,))))
        self.check(program, 2, 0, None)

    def test_no_fit(self):
        program = wide(3) + nest("a[i] = 1")
        for piece, number in ((2, 0), (3, 0), (-1, 0), (-2, 0), (-3, 0), (0, 1), (0, -1), (0, -2), (1, 2), (1, -1),
                              (BIG, 0), (-SIXTY_NINES, 0), (0, SIXTY_NINES), (1, -SIXTY_NINES)):
            self.refused(NoFit, program, piece, number)

    def test_no_fit_ahead_of_too_many(self):
        for program in (wide(501), wide(BIG), wide(3) + wide(BIG)):
            self.refused(TooMany, program, 0, 0)
            self.refused(NoFit, program, 0, 1)
            self.refused(NoFit, program, 2, 0)
            self.refused(NoFit, program, -1, 0)
        self.check(wide(500), 0, 0, ((0, 0, (1,)), (0, 0, (2,))))
        self.check(wide(500, "a[i] = 1"), 0, 0, None)

    def test_by_going_through_all(self):
        draw = Draw(330, SMALL)
        seen = {True: 0, False: 0}
        for again in range(400):
            program = draw.sparse_program()
            piece = draw.upto(0, len(program) - 1)
            number = draw.upto(0, len(program[piece][0]) - 1)
            if size_by_hand(program) > 1000:
                self.refused(TooMany, program, piece, number)
                continue
            pair = first_beside(program, piece, number)
            self.check(program, piece, number, pair)
            seen[pair is None] += 1
            if pair is None:
                self.mixed(draw, program, piece, number)
        self.assertGreater(min(seen.values()), 20)

    def mixed(self, draw, program, piece, number):
        """However the doings of the loop's values are mixed, each value's own in their order, the tables are alike."""
        start = draw.tables()
        expected = run(program, start)
        for again in range(3):
            order, groups = [], {}
            for doing in all_doings(program):
                key = doing[2][:number] if doing[0] == piece else None
                groups.setdefault((doing[0], key), []).append(doing)
            for (which, key), doings in groups.items():
                if which != piece:
                    order.extend(doings)
                    continue
                streams = {}
                for doing in doings:
                    streams.setdefault(doing[2][number], []).append(doing)
                while streams:
                    value = draw.source.choice(sorted(streams))
                    order.append(streams[value].pop(0))
                    if not streams[value]:
                        del streams[value]
            self.assertEqual(sorted(order), sorted(all_doings(program)))
            self.assertEqual(done_in(program, order, start), expected)


class Kept(unittest.TestCase):
    def test_a_told_program_may_be_changed(self):
        program = wide(3)
        for turning in (Shift(0, 0, 1), Strips(0, 0, 2)):
            new = turned(program, turning)
            kept = list(new)
            new.append("more")
            new[0] = None
            self.assertEqual(turned(program, turning), kept)
            new.clear()
            self.assertEqual(turned(program, turning), kept)
            self.assertEqual(program, wide(3))

    def test_the_same_behind_refusals(self):
        program = wide(3)
        for again in range(2):
            for error, turning in ((NoFit, Back(0, 1)), (OutOfOrder, Back(0, 0))):
                with self.assertRaises(error):
                    turned(program, turning)
            with self.assertRaises(TooMany):
                turned(wide(BIG), Back(0, 0))
            self.assertEqual(turned(program, Shift(0, 0, 0)), program)
            self.assertIsNone(clash(program, Shift(0, 0, 0)))

    def test_great_values(self):
        loops = (span("i", SIXTY_NINES, SIXTY_NINES + 2),)
        program = [(loops, (row_of(at("a", (SIXTY_NINES, 1)), (0, 0), (1, (at("a", (SIXTY_NINES, 1 - SIXTY_NINES)),))),))]
        first, second = (0, 0, (SIXTY_NINES,)), (0, 0, (SIXTY_NINES + 1,))
        self.assertEqual(clash(program, Back(0, 0)), (first, second))
        self.assertEqual(beside(program, 0, 0), (first, second))
        self.assertIsNone(clash(program, Shift(0, 0, -SIXTY_NINES)))


if __name__ == "__main__":
    unittest.main()
