"""Points [11], [12], [13]: places and cells; what a row writes, reads, touches; the number of a row."""

import itertools
import random
import unittest

from loopturn.rows import cell_of, number_of, read_by, touching, written_by
from samples import SIXTY_NINES, at, row_of

BY = 1000000007
# a[i, j+1] = 3i-7 + 2*a[i-1, j]*b[0] + -1*b[j], over i and j.
LONG = row_of(
    at("a", (1, 0, 0), (0, 1, 1)),
    (3, 0, -7),
    (2, (at("a", (1, 0, -1), (0, 1, 0)), at("b", (0, 0, 0)))),
    (-1, (at("b", (0, 1, 0)),)),
)


def by_hand(total, turn):
    return sum(weight * value for weight, value in zip(total[:-1], turn)) + total[-1]


class Cells(unittest.TestCase):
    def check(self, place, turn, cell):
        told = cell_of(place, turn)
        self.assertIs(type(told), tuple)
        self.assertIs(type(told[1]), tuple)
        self.assertEqual({type(number) for number in told[1]}, {int})
        self.assertEqual(told, cell)

    def test_one_sum(self):
        self.check(at("a", (2, -1)), (5,), ("a", (9,)))
        self.check(at("abcdefgh", (0, -4)), (5,), ("abcdefgh", (-4,)))
        self.check(at("a", (1, 1, 0)), (3, 4), ("a", (7,)))

    def test_two_sums(self):
        self.check(at("a", (1, 0, 0), (0, 1, 1)), (3, 4), ("a", (3, 5)))
        self.check(at("a", (0, 1, 0), (1, 0, 0)), (3, 4), ("a", (4, 3)))
        self.check(at("a", (1, 1, 1, 1), (-1, 2, 0, 0)), (1, 2, 3), ("a", (7, 3)))

    def test_sixty_figures(self):
        self.check(at("z", (SIXTY_NINES, -1)), (-SIXTY_NINES,), ("z", (-SIXTY_NINES ** 2 - 1,)))


class WrittenAndRead(unittest.TestCase):
    def test_written(self):
        self.assertEqual(written_by(LONG, (4, 9)), ("a", (4, 10)))
        self.assertEqual(written_by(LONG, (-4, 0)), ("a", (-4, 1)))
        self.assertEqual(written_by(row_of(at("c", (5, 1)), (0, 0)), (2,)), ("c", (11,)))

    def test_read_term_by_term(self):
        self.assertEqual(read_by(LONG, (4, 9)), [("a", (3, 9)), ("b", (0,)), ("b", (9,))])

    def test_no_terms(self):
        told = read_by(row_of(at("a", (1, 0)), (9, 9)), (3,))
        self.assertIs(type(told), list)
        self.assertEqual(told, [])

    def test_as_often_as_they_come_and_of_weight_0_too(self):
        a, b = at("a", (1, 0)), at("b", (0, 2))
        row = row_of(at("c", (1, 0)), (0, 0), (0, (a, a)), (1, (b,)), (0, (b, a)), (5, (a,)))
        self.assertEqual(
            read_by(row, (7,)),
            [("a", (7,)), ("a", (7,)), ("b", (2,)), ("b", (2,)), ("a", (7,)), ("a", (7,))],
        )

    def test_kinds(self):
        self.assertIs(type(read_by(LONG, (1, 2))), list)
        self.assertEqual({type(cell) for cell in read_by(LONG, (1, 2))}, {tuple})
        self.assertIs(type(written_by(LONG, (1, 2))), tuple)


class Touching(unittest.TestCase):
    def check(self, row, turn, other, there, told):
        with self.subTest(row=row, turn=turn, other=other, there=there):
            self.assertIs(touching(row, turn, other, there), told)
            self.assertIs(touching(other, there, row, turn), told)

    def test_written_by_both(self):
        a, more = row_of(at("a", (1, 0)), (0, 1)), row_of(at("a", (2, 0)), (0, 2))
        self.check(a, (4,), more, (2,), True)
        self.check(a, (4,), more, (4,), False)

    def test_written_by_one_and_read_by_the_other(self):
        writes = row_of(at("a", (1, 0)), (0, 1))
        reads = row_of(at("b", (1, 0)), (0, 0), (1, (at("c", (1, 0)), at("a", (1, -1)))))
        self.check(writes, (4,), reads, (5,), True)
        self.check(writes, (5,), reads, (4,), False)

    def test_read_at_weight_0(self):
        writes = row_of(at("a", (0, 3)), (0, 1))
        reads = row_of(at("b", (1, 0)), (0, 0), (0, (at("a", (1, 0)),)))
        self.check(writes, (9,), reads, (3,), True)
        self.check(writes, (3,), reads, (9,), False)

    def test_each_place_of_each_term(self):
        writes = row_of(at("w", (0, 0)), (0, 0))
        for place in range(8):
            places = [at("w" if k == place else "r", (0, 0)) for k in range(8)]
            terms = [(k, (places[2 * k], places[2 * k + 1])) for k in range(4)]
            self.check(writes, (1,), row_of(at("v", (0, 0)), (0, 0), *terms), (2,), True)
        terms = [(k, (at("r", (0, 0)), at("r", (0, 0)))) for k in range(4)]
        self.check(writes, (1,), row_of(at("v", (0, 0)), (0, 0), *terms), (2,), False)

    def test_read_by_both_alone_is_no_touching(self):
        one = row_of(at("a", (1, 0)), (0, 0), (1, (at("c", (0, 0)),)))
        other = row_of(at("b", (1, 0)), (0, 0), (1, (at("c", (0, 0)),)))
        self.check(one, (1,), other, (1,), False)

    def test_a_row_with_itself(self):
        step = row_of(at("a", (1, 0)), (0, 0), (1, (at("a", (1, -1)),)))
        self.check(step, (4,), step, (4,), True)
        self.check(step, (4,), step, (5,), True)
        self.check(step, (4,), step, (6,), False)
        own = row_of(at("a", (1, 0)), (0, 0))
        self.check(own, (4,), own, (4,), True)
        self.check(own, (4,), own, (5,), False)

    def test_a_row_that_reads_what_it_writes_touches_no_other_by_that(self):
        own = row_of(at("a", (1, 0)), (0, 0), (1, (at("a", (1, 0)),)))
        other = row_of(at("b", (1, 0)), (0, 0), (1, (at("b", (1, 0)),)))
        self.check(own, (4,), other, (4,), False)
        self.check(own, (4,), own, (5,), False)

    def test_names_nearly_alike(self):
        for one, other in itertools.permutations(("a", "ab", "abc", "b", "abd", "abcdefgh", "abcdefgi"), 2):
            writes = row_of(at(one, (1, 0)), (0, 0))
            reads = row_of(at("x", (1, 0)), (0, 0), (1, (at(other, (1, 0)),)))
            self.check(writes, (1,), row_of(at(other, (1, 0)), (0, 0)), (1,), False)
            self.check(writes, (1,), reads, (1,), False)

    def test_one_sum_and_two(self):
        one, two = row_of(at("a", (1, 0)), (0, 0)), row_of(at("a", (1, 0), (1, 0)), (0, 0))
        self.check(one, (1,), two, (1,), False)
        turned = row_of(at("a", (0, 2), (1, 0)), (0, 0))
        self.check(two, (1,), turned, (1,), False)
        self.check(two, (2,), turned, (2,), True)
        self.check(two, (2,), turned, (1,), False)

    def test_rows_in_unlike_loops(self):
        deep = row_of(at("a", (1, 1, 1, 0)), (0, 0, 0, 0))
        self.check(deep, (1, 2, 3), row_of(at("a", (2, 0)), (0, 0)), (3,), True)
        self.check(deep, (1, 2, 4), row_of(at("a", (2, 0)), (0, 0)), (3,), False)


class Number(unittest.TestCase):
    def check(self, row, turn, tables, number):
        told = number_of(row, turn, tables)
        self.assertIs(type(told), int)
        self.assertEqual(told, number)

    def test_no_terms(self):
        row = row_of(at("a", (1, 0)), (3, -7))
        self.check(row, (5,), {}, 8)
        self.check(row, (2,), {}, BY - 1)
        self.check(row, (0,), {}, BY - 7)

    def test_one_place_and_two(self):
        tables = {("a", (3, 9)): 11, ("b", (0,)): 13, ("b", (9,)): 17}
        self.check(LONG, (4, 9), tables, 5 + 2 * 11 * 13 - 17)
        self.check(LONG, (4, 8), tables, 5)
        self.check(LONG, (0, 9), tables, BY - 7 - 17)

    def test_cells_that_are_not_there_hold_0(self):
        row = row_of(at("a", (1, 0)), (0, 4), (2, (at("a", (1, 0)), at("b", (1, 0)))), (3, (at("b", (1, 0)),)))
        self.check(row, (1,), {}, 4)
        self.check(row, (1,), {("a", (1,)): 9}, 4)
        self.check(row, (1,), {("b", (1,)): 9}, 31)
        self.check(row, (1,), {("a", (1,)): 10, ("b", (1,)): 9}, 211)
        self.check(row, (1,), {("a", (1, 1)): 10, ("b", (0,)): 9}, 4)

    def test_its_own_cell_is_read_ahead_of_writing(self):
        row = row_of(at("a", (0, 0)), (0, 1), (2, (at("a", (0, 0)),)))
        tables = {("a", (0,)): 20}
        self.check(row, (0,), tables, 41)
        self.assertEqual(tables, {("a", (0,)): 20})

    def test_weights(self):
        b = at("b", (0, 0))
        tables = {("b", (0,)): 1000000006}
        for weight in (-SIXTY_NINES, -3, -1, 0, 1, 2, SIXTY_NINES):
            self.check(row_of(at("a", (0, 0)), (0, 5), (weight, (b,))), (0,), tables, (5 - weight) % BY)
            self.check(row_of(at("a", (0, 0)), (0, 5), (weight, (b, b))), (0,), tables, (5 + weight) % BY)

    def test_from_0_to_the_last_rest(self):
        for number in (-BY, 0, BY, 5 * BY, BY * SIXTY_NINES):
            self.check(row_of(at("a", (0, 0)), (0, number)), (0,), {}, 0)
            self.check(row_of(at("a", (0, 0)), (0, number - 1)), (0,), {}, 1000000006)
            self.check(row_of(at("a", (0, 0)), (0, number + 1)), (0,), {}, 1)
        self.check(row_of(at("a", (0, 0)), (0, SIXTY_NINES)), (0,), {}, (10 ** 60 - 1) % BY)

    def test_none_to_four_terms(self):
        source = random.Random(3)
        weights = (-SIXTY_NINES, -2, -1, 0, 1, 3, SIXTY_NINES)
        for asked in range(1500):
            names = asked % 3 + 1
            turn = tuple(source.randint(-2, 2) for name in range(names))

            def total():
                return tuple(source.randint(-1, 1) for part in range(names + 1))

            def place():
                return at(source.choice("ab"), *[total() for one in range(source.randint(1, 2))])

            terms = [
                (source.choice(weights), tuple(place() for one in range(source.randint(1, 2))))
                for term in range(asked % 5)
            ]
            right = tuple(source.choice(weights) for part in range(names + 1))
            tables = {}
            number = by_hand(right, turn)
            for weight, places in terms:
                for table, sums in places:
                    cell = (table, tuple(by_hand(one, turn) for one in sums))
                    if source.random() < 0.8:
                        tables.setdefault(cell, source.choice((0, 1, 5, 1000000006)))
            for weight, places in terms:
                held = weight
                for table, sums in places:
                    held *= tables.get((table, tuple(by_hand(one, turn) for one in sums)), 0)
                number += held
            self.check(row_of(place(), right, *terms), turn, tables, number % BY)


class Kept(unittest.TestCase):
    def test_a_told_list_may_be_changed(self):
        for row in (LONG, row_of(at("a", (1, 0, 0)), (0, 0, 0))):
            first = read_by(row, (4, 9))
            kept = list(first)
            first.append("more")
            first[0] = None
            self.assertEqual(read_by(row, (4, 9)), kept)

    def test_tables_stay(self):
        tables = {("a", (3, 9)): 11}
        first = number_of(LONG, (4, 9), tables)
        # Asking for cells that are not there must not lay them down.
        self.assertEqual(tables, {("a", (3, 9)): 11})
        number_of(LONG, (0, 0), {("b", (0,)): 5})
        self.assertEqual(number_of(LONG, (4, 9), tables), first)

    def test_tables_are_read_as_they_are_when_asked(self):
        tables = {}
        self.assertEqual(number_of(LONG, (4, 9), tables), 5)
        tables[("b", (9,))] = 3
        self.assertEqual(number_of(LONG, (4, 9), tables), 2)
        del tables[("b", (9,))]
        self.assertEqual(number_of(LONG, (4, 9), tables), 5)

    def test_asked_twice(self):
        for again in range(2):
            self.assertIs(touching(LONG, (1, 1), LONG, (1, 1)), True)
            self.assertIs(touching(LONG, (1, 1), LONG, (3, 1)), False)
            self.assertEqual(cell_of(LONG[0], (1, 1)), ("a", (1, 2)))
            self.assertEqual(written_by(LONG, (1, 1)), ("a", (1, 2)))


if __name__ == "__main__":
    unittest.main()
