"""[1] to [3]: the whole, from texts to texts."""

import copy
import unittest

from by_names import all_doings, cells_at
from loopturn.desk import Desk
from loopturn.errors import LoopError, NoFit, OutOfOrder, TooMany
from loopturn.finder import meeting, touch
from loopturn.loops import turns_of
from loopturn.orders import beside, clash, turned
from loopturn.papers import holds
from loopturn.reader import read
from loopturn.runs import done_in, doings_of, run, size_of
from loopturn.spoken import read_turning
from loopturn.texts import shown
from looked_at import text
from samples import EXAMPLE, SMALL, Draw

# Neighbours added up, a second table of their sums, and a last piece that reads both.
GRID = text(
    "loop i from 1 to 4", "loop j from 1 to 5", "a[i, j] = i+2j + 3*a[i-1, j] + 1*a[i, j-1]", "end",
    "loop x from 1 to 4", "loop y from 1 to 5", "b[x, y] = 1 + 2*a[x, y]*a[x, y]", "end",
    "loop i from 1 to 4", "c[0] = 7i + 1*c[0]*b[i, 5]", "end",
)
STARTS = (
    {}, {("a", (0, n)): 11 * n + 5 for n in range(6)}, {("c", (0,)): 1000000006, ("a", (2, 0)): 3, ("d", (1,)): 4},
)


class FromTexts(unittest.TestCase):
    def follow(self, first, turnings, last=None):
        """A program's text, turned by texts: each step leaves the same tables, and is written and read again."""
        program = read(first)
        desk = Desk(program)
        for words in turnings:
            before = desk.now()
            turning = read_turning(words)
            self.assertIsNone(clash(before, turning))
            new = desk.turn(turning)
            self.assertEqual(new, turned(before, read_turning(words)))
            self.assertEqual(read(shown(new)), new)
            self.assertLessEqual(size_of(new), 1000)
            for start in STARTS:
                self.assertEqual(run(new, start), run(program, start))
            order = [desk.old_of(doing) for doing in doings_of(new)]
            self.assertEqual(sorted(order), sorted(doings_of(program)))
            for start in STARTS:
                # The old doings in the new program's order leave the same tables, too.
                self.assertEqual(done_in(program, order, start), run(program, start))
            for doing in doings_of(program):
                self.assertEqual(cells_at(program, doing), cells_at(new, desk.now_of(doing)))
                self.assertEqual(desk.old_of(desk.now_of(doing)), doing)
        self.assertEqual(desk.told(), list(turnings))
        if last is not None:
            self.assertEqual(shown(desk.now()), last)
        while desk.many():
            desk.undo()
        self.assertEqual(shown(desk.now()), first)

    def test_a_grid(self):
        self.follow(GRID, (
            "swap 0 0", "swap 1 0", "join 0", "slant 0 1 0 1", "swap 0 0", "shift 1 0 -3", "strips 1 0 2 k", "part 0 1",
        ))

    def test_a_front(self):
        # Slanted and exchanged, all of one slant may go side by side.
        first = text("loop i from 1 to 4", "loop j from 1 to 5", "a[i, j] = 1 + 3*a[i-1, j] + 1*a[i, j-1]", "end")
        self.follow(first, ("slant 0 1 0 1", "swap 0 0"), text(
            "loop j from 2 to 9", "loop i from 1, j-5 to 4, j-1",
            "a[i, j-i] = 1 + 3*a[i-1, j-i] + 1*a[i, j-i-1]", "end",
        ))
        program = read(first)
        self.assertIsNotNone(beside(program, 0, 0))
        self.assertIsNotNone(beside(program, 0, 1))
        front = turned(turned(program, read_turning("slant 0 1 0 1")), read_turning("swap 0 0"))
        self.assertIsNotNone(beside(front, 0, 0))
        self.assertIsNone(beside(front, 0, 1))
        backwards = turned(front, read_turning("back 0 1"))
        for start in STARTS:
            self.assertEqual(run(backwards, start), run(program, start))

    def test_tiles(self):
        first = text("loop i from 0 to 5", "loop j from 0 to 5", "a[i, j] = i + 1*a[i-1, j-1]", "end")
        self.follow(first, ("strips 0 1 3 t", "swap 0 0"), text(
            "loop t from -2/3, 0 to 5/3, 1", "loop i from 0 to 5", "loop j from 0, 3t to 5, 3t+2",
            "a[i, j] = i + 1*a[i-1, j-1]", "end",
        ))

    def test_the_example(self):
        self.follow(EXAMPLE, ("strips 0 0 3 t", "slant 0 2 0 -2", "swap 0 1", "shift 0 2 100", "swap 0 1"))

    def test_refused_on_the_way(self):
        desk = Desk(read(GRID))
        for words, error in (
            ("back 0 0", OutOfOrder), ("back 0 1", OutOfOrder), ("back 2 0", OutOfOrder), ("join 1", NoFit),
            ("swap 2 0", NoFit), ("slant 0 0 0 1", NoFit), ("part 0 1", NoFit), ("strips 0 0 1 t", NoFit),
        ):
            with self.assertRaises(error) as caught:
                desk.turn(read_turning(words))
            self.assertIsInstance(caught.exception, LoopError)
            self.assertEqual((shown(desk.now()), desk.many()), (GRID, 0))
        with self.assertRaises(OutOfOrder) as caught:
            desk.turn(read_turning("back 0 0"))
        one, other = caught.exception.first, caught.exception.second
        self.assertEqual((one, other), ((0, 0, (1, 1)), (0, 0, (2, 1))))
        self.assertEqual(meeting(desk.now(), (0, 0), (0, 0)), ((1, 1), (1, 1)))


class Promised(unittest.TestCase):
    """[3] of programs that are drawn: let by with the same tables, or refused with two doings."""

    def test_turned_again_and_again(self):
        draw = Draw(30, SMALL)
        seen = {"let by": 0, OutOfOrder: 0, NoFit: 0, TooMany: 0}
        for again in range(500):
            program = draw.sparse_program()
            desk = Desk(program)
            kept, start = copy.deepcopy(program), draw.tables()
            try:
                expected = run(program, start)
            except TooMany:
                continue
            for deed in range(6):
                words = draw.source.choice(("swap", "back", "slant", "shift", "strips", "join", "part"))
                many = {"swap": 2, "back": 2, "slant": 4, "shift": 3, "strips": 3, "join": 1, "part": 2}[words]
                words += "".join(" " + str(draw.source.choice((0, 0, 0, 1, 1, 2))) for number in range(many))
                words += " new" if words.startswith("strips") else ""
                turning, before = read_turning(words), desk.now()
                try:
                    new = desk.turn(turning)
                except OutOfOrder as error:
                    self.turned_two(before, turning, error.first, error.second)
                    seen[OutOfOrder] += 1
                except LoopError as error:
                    seen[type(error)] += 1
                else:
                    self.assertEqual(run(new, start), expected)
                    seen["let by"] += 1
                self.assertEqual(program, kept)
        for outcome in ("let by", OutOfOrder, NoFit):
            self.assertGreater(seen[outcome], 15, seen)

    def turned_two(self, program, turning, one, other):
        """Two doings that touch one cell, one of them writing it, and that the new program does the other way."""
        written, used = cells_at(program, one)
        other_written, other_used = cells_at(program, other)
        self.assertTrue(written in [other_written] + other_used or other_written in used)
        old, new = all_doings(program), all_doings(turning.made(program))
        self.assertLess(old.index(one), old.index(other))
        self.assertGreater(new.index(turning.there(program, one)), new.index(turning.there(program, other)))

    def test_papers_of_the_rows_of_a_program(self):
        program = read(GRID)
        for here, (loops, rows) in enumerate(program):
            for there, (other_loops, other_rows) in enumerate(program):
                place, spot = rows[0][0], other_rows[0][1][1][0][1][0]
                pair, paper = touch(loops, place, other_loops, spot)
                self.assertIs(holds(loops, place, other_loops, spot, pair, paper), True)
                if pair is not None:
                    self.assertIn(pair[0], turns_of(loops))
                    self.assertIn(pair[1], turns_of(other_loops))


if __name__ == "__main__":
    unittest.main()
