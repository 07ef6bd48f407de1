"""[34]: the desk."""

import copy
import unittest

from by_names import all_doings, cells_at
from loopturn.desk import Desk
from loopturn.errors import LoopError, NoFit, OutOfOrder, TooMany
from loopturn.joins import Join, Part
from loopturn.reader import read
from loopturn.runs import run
from loopturn.turnings import Back, Shift, Slant, Strips, Swap
from looked_at import text
from samples import SIXTY_NINES, SMALL, Draw

NEST = text(
    "loop i from 1 to 3", "loop j from i to 4", "a[i, j] = 3i-7 + 2*a[i-1, j]", "b[i, j] = 1 + 1*a[i, j]", "end",
    "loop i from 1 to 3", "c[i] = 5 + 1*b[i, i]", "end",
)


def row_on(high, low=1):
    return read(text(f"loop i from {low} to {high}", "a[i] = 1 + 2*a[i-1]", "end"))


class Looked(unittest.TestCase):
    def stands(self, desk, programs, turnings):
        """All that a desk tells, where these turnings stand and the programs were ahead of each, and is now."""
        for again in range(2):
            self.assertEqual(desk.now(), programs[-1])
            self.assertIs(type(desk.now()), list)
            self.assertEqual(desk.many(), len(turnings))
            self.assertIs(type(desk.many()), int)
            self.assertEqual(desk.told(), [turning.words() for turning in turnings])
            self.assertIs(type(desk.told()), list)
        first, last = all_doings(programs[0]), all_doings(programs[-1])
        through = []
        for doing in first:
            new = doing
            for program, turning in zip(programs, turnings):
                new = turning.there(program, new)
            through.append(new)
        self.assertEqual([desk.now_of(doing) for doing in first], through)
        self.assertEqual([desk.old_of(doing) for doing in through], first)
        self.assertEqual(sorted(through), sorted(last))
        for doing, new in zip(first, through):
            self.assertEqual(cells_at(programs[0], doing), cells_at(programs[-1], new))

    def refuses(self, desk, error, deed, *arguments):
        """A refusal, behind which all is as it was."""
        before = (desk.now(), desk.many(), desk.told())
        for again in range(2):
            with self.assertRaises(error) as caught:
                deed(*arguments)
            self.assertIs(type(caught.exception), error)
            self.assertIsInstance(caught.exception, LoopError)
            self.assertEqual((desk.now(), desk.many(), desk.told()), before)
        return caught.exception


class Turned(Looked):
    def test_at_first(self):
        program = read(NEST)
        self.stands(Desk(program), [program], [])

    def test_turned_and_undone(self):
        program = read(NEST)
        desk = Desk(program)
        turnings = [
            Swap(0, 0), Part(0, 1), Shift(1, 0, -5), Slant(0, 1, 0, 2), Strips(2, 0, 2, "k"), Back(2, 1), Back(1, 1),
        ]
        programs = [program]
        for number, turning in enumerate(turnings):
            new = desk.turn(turning)
            self.assertEqual(new, turning.made(programs[-1]))
            programs.append(new)
            self.stands(desk, programs, turnings[:number + 1])
            self.assertEqual(run(desk.now(), {}), run(program, {}))
        for number in range(len(turnings) - 1, -1, -1):
            self.assertEqual(desk.undo(), programs[number])
            self.stands(desk, programs[:number + 1], turnings[:number])
        self.assertEqual(desk.now(), program)

    def test_undone_and_turned_again(self):
        program = read(NEST)
        desk = Desk(program)
        first = desk.turn(Shift(0, 0, 1))
        desk.turn(Shift(0, 1, 1))
        desk.undo()
        second = desk.turn(Back(0, 1))
        self.stands(desk, [program, first, second], [Shift(0, 0, 1), Back(0, 1)])
        desk.undo()
        desk.undo()
        self.stands(desk, [program], [])

    def test_pieces_put_together_and_cut(self):
        program = read(text("loop i from 1 to 3", "a[i] = 1", "end", "loop k from 1 to 3", "b[k] = 2 + 1*a[k]", "end",
                            "loop i from 1 to 3", "c[i] = 3 + 1*b[i]", "end"))
        desk = Desk(program)
        programs, turnings = [program], []
        for turning in (Join(1), Join(0), Part(0, 2), Shift(1, 0, 7), Part(0, 1)):
            programs.append(desk.turn(turning))
            turnings.append(turning)
            self.stands(desk, programs, turnings)
        self.assertEqual(desk.now_of((1, 0, (2,))), (1, 0, (2,)))
        self.assertEqual(desk.now_of((2, 0, (2,))), (2, 0, (9,)))
        self.assertEqual(desk.old_of((2, 0, (9,))), (2, 0, (2,)))


class Refused(Looked):
    def test_no_fit(self):
        program = row_on(3)
        desk = Desk(program)
        for turning in (Swap(0, 0), Back(1, 0), Back(0, -1), Join(0), Part(0, 1), Strips(0, 0, 1)):
            self.refuses(desk, NoFit, desk.turn, turning)
        self.stands(desk, [program], [])
        new = desk.turn(Shift(0, 0, 1))
        self.refuses(desk, NoFit, desk.turn, Back(1, 0))
        self.stands(desk, [program, new], [Shift(0, 0, 1)])

    def test_out_of_order(self):
        program = row_on(3)
        desk = Desk(program)
        error = self.refuses(desk, OutOfOrder, desk.turn, Back(0, 0))
        self.assertEqual((error.first, error.second), ((0, 0, (1,)), (0, 0, (2,))))
        # The doings are those of the program now, not of the first one.
        new = desk.turn(Shift(0, 0, 10))
        error = self.refuses(desk, OutOfOrder, desk.turn, Back(0, 0))
        self.assertEqual((error.first, error.second), ((0, 0, (11,)), (0, 0, (12,))))
        self.stands(desk, [program, new], [Shift(0, 0, 10)])

    def test_too_many_values(self):
        program = row_on(500)
        desk = Desk(program)
        self.refuses(desk, TooMany, desk.turn, Strips(0, 0, 2))
        self.assertEqual((desk.now(), desk.many(), desk.told()), (program, 0, []))
        desk.turn(Shift(0, 0, 1))
        self.refuses(desk, TooMany, desk.turn, Strips(0, 0, 2))
        self.assertEqual((desk.now(), desk.many(), desk.told()), (row_on_shifted(), 1, ["shift 0 0 1"]))

    def test_the_thirteenth(self):
        program = row_on(3)
        desk = Desk(program)
        programs, turnings = [program], []
        for number in range(12):
            turnings.append(Shift(0, 0, number - 3))
            programs.append(desk.turn(turnings[-1]))
            self.assertEqual(desk.many(), number + 1)
        self.stands(desk, programs, turnings)
        # Ahead of any other refusal: one that would be let by, that doesn't fit, that turns the order.
        for turning in (Shift(0, 0, 1), Swap(0, 0), Back(5, 0), Back(0, 0), Strips(0, 0, -1)):
            self.refuses(desk, TooMany, desk.turn, turning)
        self.stands(desk, programs, turnings)
        # With one undone, another may stand.
        self.assertEqual(desk.undo(), programs[11])
        self.refuses(desk, NoFit, desk.turn, Swap(0, 0))
        self.refuses(desk, OutOfOrder, desk.turn, Back(0, 0))
        new = desk.turn(Shift(0, 0, SIXTY_NINES))
        self.stands(desk, programs[:12] + [new], turnings[:11] + [Shift(0, 0, SIXTY_NINES)])
        self.refuses(desk, TooMany, desk.turn, Shift(0, 0, 1))

    def test_nothing_to_undo(self):
        program = row_on(3)
        desk = Desk(program)
        self.refuses(desk, NoFit, desk.undo)
        desk.turn(Shift(0, 0, 1))
        desk.undo()
        self.refuses(desk, NoFit, desk.undo)
        self.stands(desk, [program], [])
        self.stands_again(desk, program)

    def stands_again(self, desk, program):
        new = desk.turn(Shift(0, 0, 4))
        self.stands(desk, [program, new], [Shift(0, 0, 4)])

    def test_refused_turnings_do_not_count(self):
        desk = Desk(row_on(3))
        for number in range(12):
            self.refuses(desk, NoFit, desk.turn, Swap(0, 0))
            desk.turn(Shift(0, 0, 1))
        self.refuses(desk, TooMany, desk.turn, Swap(0, 0))
        self.assertEqual(desk.told(), ["shift 0 0 1"] * 12)


def row_on_shifted():
    return read(text("loop i from 2 to 501", "a[i-1] = 1 + 2*a[i-2]", "end"))


class Kept(Looked):
    def test_the_list_that_was_handed_in(self):
        handed, program = read(NEST), read(NEST)
        desk = Desk(handed)
        self.assertEqual(handed, program)
        handed.append(handed[0])
        handed[0] = handed[1]
        self.stands(desk, [program], [])
        handed.clear()
        new = desk.turn(Swap(0, 0))
        self.stands(desk, [program, new], [Swap(0, 0)])
        self.assertEqual(handed, [])
        self.assertEqual(desk.undo(), program)

    def test_the_list_stays(self):
        handed = read(NEST)
        desk = Desk(handed)
        for turning in (Swap(0, 0), Shift(1, 0, 3), Part(0, 1)):
            desk.turn(turning)
        self.assertEqual(handed, read(NEST))
        desk.undo()
        self.assertEqual(handed, read(NEST))

    def test_told_lists_may_be_changed(self):
        program = read(NEST)
        desk = Desk(program)
        kept = [program]
        for turning in (Swap(0, 0), Shift(1, 0, 3)):
            told = desk.turn(turning)
            kept.append(copy.deepcopy(told))
            told.append("more")
            told[0] = None
            for again in (desk.now(), desk.told()):
                again.append("more")
                again[0] = None
            told.clear()
            self.stands(desk, kept, [Swap(0, 0), Shift(1, 0, 3)][:len(kept) - 1])
        told = desk.undo()
        told.clear()
        desk.told().clear()
        self.stands(desk, kept[:2], [Swap(0, 0)])
        told = desk.undo()
        told[0] = None
        self.stands(desk, kept[:1], [])
        self.assertIsNot(desk.now(), desk.now())
        self.assertIsNot(desk.told(), desk.told())

    def test_two_desks(self):
        program = read(NEST)
        one, other = Desk(program), Desk(program)
        first = one.turn(Swap(0, 0))
        self.stands(other, [program], [])
        second = other.turn(Shift(0, 0, 1))
        self.stands(one, [program, first], [Swap(0, 0)])
        self.stands(other, [program, second], [Shift(0, 0, 1)])
        one.undo()
        self.stands(other, [program, second], [Shift(0, 0, 1)])
        self.stands(one, [program], [])
        self.refuses(one, NoFit, one.undo)
        self.stands(other, [program, second], [Shift(0, 0, 1)])

    def test_a_desk_of_what_a_desk_told(self):
        one = Desk(read(NEST))
        one.turn(Swap(0, 0))
        other = Desk(one.now())
        kept = one.now()
        other.turn(Shift(0, 0, 1))
        self.assertEqual((one.now(), one.many(), other.many()), (kept, 1, 1))

    def test_one_turning_used_twice_and_on_two_desks(self):
        program = read(NEST)
        one, other = Desk(program), Desk(read(NEST))
        turning = Shift(0, 1, 2)
        first = one.turn(turning)
        self.assertEqual(other.turn(turning), first)
        second = one.turn(turning)
        self.assertNotEqual(first, second)
        self.stands(one, [program, first, second], [turning, turning])
        self.stands(other, [program, first], [turning])
        one.undo()
        self.stands(one, [program, first], [turning])
        swap = Swap(0, 0)
        third = one.turn(swap)
        fourth = one.turn(swap)
        self.stands(one, [program, first, third, fourth], [turning, swap, swap])
        self.assertEqual(vars(turning), vars(Shift(0, 1, 2)))

    def test_drawn(self):
        draw = Draw(340, SMALL)
        deeds = {"let by": 0, "refused": 0, "undone": 0}
        for again in range(40):
            program = read(NEST)
            desk = Desk(program)
            programs, turnings = [program], []
            for deed in range(20):
                if draw.upto(0, 4) == 0 and turnings:
                    programs.pop()
                    turnings.pop()
                    self.assertEqual(desk.undo(), programs[-1])
                    deeds["undone"] += 1
                    continue
                piece, number = draw.upto(0, 2), draw.upto(0, 2)
                turning = draw.source.choice((
                    Swap(piece, number), Back(piece, number), Slant(piece, number, 0, draw.upto(-2, 2)),
                    Shift(piece, number, draw.upto(-2, 2)), Strips(piece, number, draw.upto(2, 3), "k"), Join(piece),
                    Part(piece, 1),
                ))
                try:
                    new = desk.turn(turning)
                except LoopError:
                    deeds["refused"] += 1
                else:
                    programs.append(new)
                    turnings.append(turning)
                    deeds["let by"] += 1
                    self.assertLessEqual(len(turnings), 12)
                    self.assertEqual(run(new, {("a", (0, 2)): 9}), run(program, {("a", (0, 2)): 9}))
            self.stands(desk, programs, turnings)
        self.assertGreater(min(deeds.values()), 20)


class Class(unittest.TestCase):
    def test_methods_stand_in_the_class(self):
        for method in ("turn", "undo", "now", "now_of", "old_of", "many", "told"):
            self.assertIn(method, vars(Desk))


if __name__ == "__main__":
    unittest.main()
