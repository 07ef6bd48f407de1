"""Points [14], [15]: programs, doings and their order, the size, TooMany; a run, and doings done in an order."""

import copy
import itertools
import unittest

from loopturn.errors import LoopError, TooMany
from loopturn.runs import doings_of, done_in, run, size_of
from samples import SIXTY_NINES, SMALL, Draw, at, at_once, row_of, span

BY = 1000000007
HUGE = 10 ** 30


def rows_over(names, many):
    """So many rows, the one at k putting k into its own table."""
    zeros = (0,) * names
    return tuple(row_of(at("t" + "abcdefgh"[k], zeros + (0,)), zeros + (k,)) for k in range(many))


def plain(values, rows):
    """A piece of one loop of so many values and so many rows: its size is values * (rows + 1)."""
    return ((span("i", 1, values),), rows_over(1, rows))


# Each value becomes the one ahead of it, doubled, and one more.
CHAIN = [((span("i", 1, 5),), (row_of(at("a", (1, 0)), (0, 1), (2, (at("a", (1, -1)),))),))]


def worth_by_hand(total, turn):
    return sum(weight * value for weight, value in zip(total[:-1], turn)) + total[-1]


def cell_by_hand(place, turn):
    return (place[0], tuple(worth_by_hand(total, turn) for total in place[1]))


def doings_by_hand(program):
    """The words of [14], by going through all values that a drawn program's loops can have; and the size."""
    doings, size = [], 0
    for number, (loops, rows) in enumerate(program):
        turns = [()]
        for name, lows, highs in loops:
            turns = [
                turn + (value,)
                for turn in turns
                for value in range(-3, 5)
                if all(by * value >= worth_by_hand(total, turn) for by, total in lows)
                and all(by * value <= worth_by_hand(total, turn) for by, total in highs)
            ]
            size += len(turns)
        doings += [(number, row, turn) for turn in turns for row in range(len(rows))]
    return doings, size + len(doings)


def done_by_hand(program, order, start):
    """The words of [12] and [15]."""
    tables = dict(start)
    for piece, row, turn in order:
        place, (total, terms) = program[piece][1][row]
        number = worth_by_hand(total, turn)
        for weight, places in terms:
            for factor in places:
                weight *= tables.get(cell_by_hand(factor, turn), 0)
            number += weight
        tables[cell_by_hand(place, turn)] = number % BY
    return tables


class Doings(unittest.TestCase):
    def check(self, program, doings, size):
        told = doings_of(program)
        self.assertIs(type(told), list)
        for doing in told:
            self.assertIs(type(doing), tuple)
            self.assertEqual([type(part) for part in doing], [int, int, tuple])
        self.assertEqual(told, doings)
        self.assertIs(type(size_of(program)), int)
        self.assertEqual(size_of(program), size)

    def test_by_piece_then_turn_then_row(self):
        program = [
            ((span("i", 0, 1),), rows_over(1, 2)),
            ((span("i", 0, 1), span("j", 5, 6, 1)), rows_over(2, 1)),
        ]
        self.check(
            program,
            [
                (0, 0, (0,)), (0, 1, (0,)), (0, 0, (1,)), (0, 1, (1,)),
                (1, 0, (0, 5)), (1, 0, (0, 6)), (1, 0, (1, 5)), (1, 0, (1, 6)),
            ],
            2 + 4 + 2 + 4 + 4,
        )

    def test_one_to_eight_rows_of_one_to_three_loops(self):
        for rows in range(1, 9):
            for loops in range(1, 4):
                named = tuple(span("ijk"[k], -1, 0, k) for k in range(loops))
                turns = list(itertools.product((-1, 0), repeat=loops))
                counts = sum(2 ** k for k in range(1, loops + 1))
                self.check(
                    [(named, rows_over(loops, rows))],
                    [(0, row, turn) for turn in turns for row in range(rows)],
                    counts + len(turns) * rows,
                )

    def test_one_to_six_pieces(self):
        for many in range(1, 7):
            self.check(
                [plain(2, 2)] * many,
                [(k, row, (value,)) for k in range(many) for value in (1, 2) for row in (0, 1)],
                6 * many,
            )

    def test_without_values(self):
        self.check([plain(0, 8)], [], 0)
        self.check([plain(0, 1), plain(1, 1)], [(1, 0, (1,))], 2)
        self.check([((span("i", 1, 4), span("j", 1, 0, 1)), rows_over(2, 8))], [], 4)

    def test_drawn_ones(self):
        draw = Draw(14, SMALL)
        let_by = 0
        for program in [draw.small_program() for number in range(400)]:
            doings, size = doings_by_hand(program)
            if size > 1000:
                for ask in (size_of, doings_of):
                    self.assertRaises(TooMany, ask, program)
            else:
                let_by += 1
                self.check(program, doings, size)
        self.assertGreater(let_by, 200)


class Size(unittest.TestCase):
    """TooMany just where the size is above 1000."""

    def let_by(self, program, size, doings):
        with self.subTest(program=program), at_once():
            self.assertEqual(size_of(program), size)
            self.assertEqual(len(doings_of(program)), doings)
            self.assertIs(type(run(program, {})), dict)

    def refused(self, program):
        for ask in (size_of, doings_of, lambda asked: run(asked, {}), lambda asked: run(asked, {("a", (1,)): 1})):
            with self.subTest(program=program), at_once():
                with self.assertRaises(TooMany) as caught:
                    ask(program)
                self.assertIsInstance(caught.exception, LoopError)

    def test_one_piece(self):
        self.let_by([plain(333, 2)], 999, 666)
        self.let_by([plain(111, 8)], 999, 888)
        self.let_by([plain(500, 1)], 1000, 500)
        self.let_by([plain(125, 7)], 1000, 875)
        self.refused([plain(143, 6)])
        self.refused([plain(501, 1)])
        self.refused([plain(112, 8)])

    def test_a_count_of_1000_is_a_greater_size(self):
        self.refused([plain(1000, 1)])
        self.refused([plain(999, 1)])
        self.refused([plain(1001, 1)])

    def test_several_pieces(self):
        self.let_by([plain(111, 2), plain(333, 1)], 999, 555)
        self.let_by([plain(250, 1)] * 2, 1000, 500)
        self.let_by([plain(100, 1)] * 5, 1000, 500)
        self.let_by([plain(83, 1)] * 5 + [plain(34, 4)], 1000, 5 * 83 + 136)
        self.refused([plain(250, 1), plain(167, 2)])
        self.refused([plain(83, 1)] * 5 + [plain(57, 2)])
        self.refused([plain(1, 1)] * 5 + [plain(HUGE, 1)])
        self.refused([plain(499, 1), plain(1, 2)])

    def test_six_pieces_at_the_edge(self):
        five = [plain(40, 4)] * 4 + [plain(99, 1)]
        self.let_by(five + [plain(1, 1)], 1000, 4 * 160 + 99 + 1)
        self.refused(five + [plain(1, 2)])
        self.let_by(five, 998, 4 * 160 + 99)

    def test_values_without_a_doing(self):
        empty = span("j", 1, 0, 1)
        self.let_by([((span("i", 1, 999), empty), rows_over(2, 8))], 999, 0)
        self.let_by([((span("i", 1, 1000), empty), rows_over(2, 8))], 1000, 0)
        self.refused([((span("i", 1, 1001), empty), rows_over(2, 8))])
        # Two such pieces: no doing at all, and each count is let by.
        self.let_by([((span("i", 1, 500), empty), rows_over(2, 1))] * 2, 1000, 0)
        self.refused([((span("i", 1, 501), empty), rows_over(2, 1)), ((span("i", 1, 500), empty), rows_over(2, 1))])

    def test_loops_within_loops(self):
        # 10 + 100 values, 100 turns.
        loops = (span("i", 1, 10), span("j", 1, 10, 1))
        self.let_by([(loops, rows_over(2, 8))], 910, 800)
        self.refused([(loops, rows_over(2, 8)), plain(13, 6)])
        # 9 + 90 values and 900 within, let by by [9], but not with their doings.
        self.refused([((span("i", 1, 9), span("j", 1, 10, 1), span("k", 1, 10, 2)), rows_over(3, 1))])

    def test_far_above(self):
        self.refused([plain(HUGE, 1)])
        self.refused([plain(HUGE, 8)] * 6)
        self.refused([((span("i", 1, 2), span("j", 1, HUGE, 1), span("k", 1, 0, 2)), rows_over(3, 1))])
        self.refused([((span("i", 1, 2), span("j", 1, 2, 1), span("k", -HUGE, HUGE, 2)), rows_over(3, 1))])
        self.refused([plain(0, 1), plain(HUGE, 1)])

    def test_many_within_none(self):
        self.let_by([((span("i", 1, 0), span("j", 1, HUGE, 1)), rows_over(2, 1))], 0, 0)

    def test_the_same_behind_a_refusal(self):
        small = [plain(3, 2)]
        asked = (size_of(small), doings_of(small), run(small, {}))
        for again in range(2):
            self.refused([plain(HUGE, 1)])
            self.assertEqual((size_of(small), doings_of(small), run(small, {})), asked)


class Run(unittest.TestCase):
    def test_each_row_reads_what_is_written_ahead(self):
        self.assertEqual(run(CHAIN, {}), {("a", (k,)): 2 ** k - 1 for k in range(1, 6)})
        self.assertEqual(
            run(CHAIN, {("a", (0,)): 5}),
            {("a", (0,)): 5, **{("a", (k,)): 6 * 2 ** k - 1 for k in range(1, 6)}},
        )

    def test_each_turn_does_all_rows(self):
        first = row_of(at("a", (0, 0)), (1, 0))
        second = row_of(at("b", (1, 0)), (0, 0), (1, (at("a", (0, 0)),)))
        loops = (span("i", 1, 3),)
        self.assertEqual(
            run([(loops, (first, second))], {}),
            {("a", (0,)): 3, ("b", (1,)): 1, ("b", (2,)): 2, ("b", (3,)): 3},
        )
        # Cut in two pieces, the first one ends ahead of the second.
        self.assertEqual(
            run([(loops, (first,)), (loops, (second,))], {}),
            {("a", (0,)): 3, ("b", (1,)): 3, ("b", (2,)): 3, ("b", (3,)): 3},
        )

    def test_cells_of_the_start_stay(self):
        start = {("z", (1,)): 0, ("a", (9,)): 4, ("a", (1, 1)): 6, ("a", (1,)): 1000000006}
        told = run(CHAIN, start)
        self.assertEqual(told[("z", (1,))], 0)
        self.assertEqual(told[("a", (9,))], 4)
        self.assertEqual(told[("a", (1, 1))], 6)
        self.assertEqual(told[("a", (1,))], 1)
        self.assertEqual(len(told), 8)

    def test_written_zeros_are_told(self):
        self.assertEqual(run([plain(2, 1)], {}), {("ta", (0,)): 0})

    def test_without_doings(self):
        self.assertEqual(run([plain(0, 1)], {}), {})
        self.assertEqual(run([plain(0, 1)], {("a", (1,)): 3}), {("a", (1,)): 3})

    def test_many_cells(self):
        start = {("a", (k, -k)): k for k in range(3000)}
        self.assertEqual(run(CHAIN, start), {**start, **{("a", (k,)): 2 ** k - 1 for k in range(1, 6)}})

    def test_great_numbers(self):
        loops = (span("i", SIXTY_NINES - 1, SIXTY_NINES),)
        row = row_of(at("a", (SIXTY_NINES, 0)), (-SIXTY_NINES, 1))
        self.assertEqual(
            run([(loops, (row,))], {}),
            {("a", (SIXTY_NINES * k,)): (1 - SIXTY_NINES * k) % BY for k in (SIXTY_NINES - 1, SIXTY_NINES)},
        )

    def test_drawn_ones(self):
        draw = Draw(15, SMALL)
        for number in range(400):
            program, start = draw.small_program(), draw.tables()
            doings, size = doings_by_hand(program)
            if size > 1000:
                self.assertRaises(TooMany, run, program, start)
            else:
                self.assertEqual(run(program, start), done_by_hand(program, doings, start))


class DoneIn(unittest.TestCase):
    def test_all_in_their_order_is_a_run(self):
        draw = Draw(16, SMALL)
        for number in range(60):
            program, start = draw.small_program(), draw.tables()
            if doings_by_hand(program)[1] <= 1000:
                self.assertEqual(done_in(program, doings_of(program), start), run(program, start))

    def test_backwards(self):
        self.assertEqual(done_in(CHAIN, doings_of(CHAIN)[::-1], {}), {("a", (k,)): 1 for k in range(1, 6)})

    def test_some_left_out(self):
        self.assertEqual(
            done_in(CHAIN, [(0, 0, (1,)), (0, 0, (2,)), (0, 0, (5,))], {}),
            {("a", (1,)): 1, ("a", (2,)): 3, ("a", (5,)): 1},
        )

    def test_several_times(self):
        twice = [(0, 0, (2,)), (0, 0, (1,)), (0, 0, (2,)), (0, 0, (2,))]
        self.assertEqual(done_in(CHAIN, twice, {}), {("a", (1,)): 1, ("a", (2,)): 3})
        grows = [((span("i", 0, 0),), (row_of(at("a", (0, 0)), (0, 1), (2, (at("a", (0, 0)),))),))]
        self.assertEqual(done_in(grows, [(0, 0, (0,))] * 1000, {}), {("a", (0,)): (2 ** 1000 - 1) % BY})

    def test_none_at_all(self):
        for start in ({}, {("a", (1,)): 5, ("b", (1, 2)): 0}):
            told = done_in(CHAIN, [], start)
            self.assertIs(type(told), dict)
            self.assertEqual(told, start)
            self.assertIsNot(told, start)
            told[("more", (1,))] = 1
            self.assertNotIn(("more", (1,)), start)
            self.assertEqual(done_in(CHAIN, [], start), start)

    def test_a_program_of_any_size(self):
        row = row_of(at("a", (1, 1, 0)), (0, 1, 0), (1, (at("a", (1, 1, -1)),)))
        great = [plain(HUGE, 1), ((span("i", -HUGE, HUGE), span("j", 0, HUGE, 1)), (row, row))]
        with at_once():
            self.assertEqual(
                done_in(great, [(1, 1, (HUGE, 3)), (0, 0, (7,)), (1, 0, (HUGE, 4)), (1, 0, (-HUGE, HUGE))], {}),
                {("a", (HUGE + 3,)): 3, ("ta", (0,)): 0, ("a", (HUGE + 4,)): 7, ("a", (0,)): HUGE % BY},
            )
            self.assertEqual(done_in(great, [], {}), {})

    def test_drawn_orders(self):
        draw = Draw(17, SMALL)
        for number in range(200):
            program, start = draw.small_program(), draw.tables()
            doings = doings_by_hand(program)[0][:300]
            order = [draw.source.choice(doings) for doing in range(draw.upto(0, 60))] if doings else []
            self.assertEqual(done_in(program, order, start), done_by_hand(program, order, start))


class Kept(unittest.TestCase):
    def test_what_is_handed_in_stays(self):
        draw = Draw(18, SMALL)
        for number in range(40):
            program, start = draw.small_program(), draw.tables()
            doings, size = doings_by_hand(program)
            order = doings[:50][::-1]
            before = copy.deepcopy((program, order, start))
            done_in(program, order, start)
            if size <= 1000:
                run(program, start)
                doings_of(program)
                size_of(program)
            self.assertEqual((program, order, start), before)
            self.assertEqual(list(start), list(before[2]))

    def test_what_is_told_may_be_changed(self):
        for start in ({}, {("a", (0,)): 5}):
            kept = run(CHAIN, start)
            told = run(CHAIN, start)
            told.clear()
            told[("a", (1,))] = 99
            self.assertEqual(run(CHAIN, start), kept)
            self.assertEqual(done_in(CHAIN, doings_of(CHAIN), start), kept)
        told = doings_of(CHAIN)
        kept = list(told)
        told.reverse()
        told.append("more")
        self.assertEqual(doings_of(CHAIN), kept)
        self.assertEqual(run(CHAIN, {}), done_in(CHAIN, kept, {}))

    def test_a_changed_program_is_another_program(self):
        program = [plain(2, 1)]
        self.assertEqual(size_of(program), 4)
        program.append(plain(3, 1))
        self.assertEqual(size_of(program), 10)
        self.assertEqual(len(doings_of(program)), 5)
        program.pop()
        self.assertEqual(size_of(program), 4)


if __name__ == "__main__":
    unittest.main()
