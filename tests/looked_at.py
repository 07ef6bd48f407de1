"""What the tests of all turnings look at."""

import copy
import unittest

from by_names import all_doings, cells_at
from loopturn.errors import NoFit
from loopturn.reader import read
from loopturn.texts import shown

METHODS = ("made", "there", "back", "words")


def text(*lines):
    return "\n".join(lines)


class Turned(unittest.TestCase):
    """What each turning is looked at for, beside what its own point says."""

    def made(self, turning, program):
        kept, fields = copy.deepcopy(program), dict(vars(turning))
        new = turning.made(program)
        self.assertIs(type(new), list)
        self.assertIsNot(new, program)
        self.assertEqual(program, kept)
        self.assertEqual(turning.made(program), new)
        self.assertEqual(vars(turning), fields)
        self.assertEqual({type(part) for part in new}, {tuple})
        return new

    def texts(self, turning, old, new):
        """A program's text, and that of the new one."""
        program = read(old)
        with self.subTest(turning=turning.words(), old=old):
            self.assertEqual(shown(self.made(turning, program)), new)
            self.both_ways(turning, program)

    def both_ways(self, turning, program):
        """Each doing of the old program is just one of the new one, at the same cells; and back."""
        new = self.made(turning, program)
        old_doings, new_doings = all_doings(program), all_doings(new)
        there = [turning.there(program, doing) for doing in old_doings]
        self.assertEqual(sorted(there), sorted(new_doings))
        self.assertEqual([turning.back(program, doing) for doing in there], old_doings)
        back = [turning.back(program, doing) for doing in new_doings]
        self.assertEqual([turning.there(program, doing) for doing in back], new_doings)
        for one, other in zip(old_doings, there):
            self.assertEqual(cells_at(program, one), cells_at(new, other))
            self.assertEqual([type(other), type(other[2])], [tuple, tuple])
            self.assertEqual({type(number) for number in other[:2] + other[2]}, {int})

    def no_fit(self, turning, program):
        kept, fields = copy.deepcopy(program), dict(vars(turning))
        with self.subTest(turning=turning.words()):
            for again in range(2):
                with self.assertRaises(NoFit):
                    turning.made(program)
            self.assertEqual(program, kept)
            self.assertEqual(vars(turning), fields)
