"""Turnings of how many pieces there are: two put together, one cut in two."""

from loopturn.changes import piece_of, words_of
from loopturn.errors import NoFit
from loopturn.limits import MOST_PIECES, MOST_ROWS
from loopturn.turnings import Turning


class Join(Turning):
    """A piece and the next one put together."""

    def __init__(self, piece):
        Turning.__init__(self, piece)

    def made(self, program):
        """The new program, or NoFit: no such piece, no next one, unlike ends, or more than eight rows together."""
        loops, rows = piece_of(program, self.piece)
        next_loops, next_rows = piece_of(program, self.piece + 1)
        if ends_of(loops) != ends_of(next_loops) or len(rows) + len(next_rows) > MOST_ROWS:
            raise NoFit("unlike ends, or more than eight rows")
        return program[:self.piece] + [(loops, rows + next_rows)] + program[self.piece + 2:]

    def there(self, program, doing):
        """The new program's doing for one of the old program."""
        piece, row, turn = doing
        if piece <= self.piece:
            return doing
        if piece == self.piece + 1:
            return self.piece, row + rows_ahead(program, self.piece), turn
        return piece - 1, row, turn

    def back(self, program, doing):
        """The old program's doing for one of the new program."""
        piece, row, turn = doing
        if piece > self.piece:
            return piece + 1, row, turn
        ahead = rows_ahead(program, self.piece)
        if piece == self.piece and row >= ahead:
            return piece + 1, row - ahead, turn
        return doing

    def words(self):
        """The turning as a text."""
        return words_of("join", [self.piece])


def ends_of(loops):
    """A list of the lows and highs of loops, without their names."""
    return [(lows, highs) for name, lows, highs in loops]


def rows_ahead(program, piece):
    """How many rows the first one of two pieces has, behind which those of the next one come."""
    loops, rows = program[piece]
    return len(rows)


class Part(Turning):
    """A piece cut in two, ahead of a row."""

    def __init__(self, piece, row):
        Turning.__init__(self, piece)
        self.row = row

    def made(self, program):
        """The new program, or NoFit: no such piece, no row on one side, or six pieces already."""
        loops, rows = piece_of(program, self.piece)
        if not 0 < self.row < len(rows) or len(program) >= MOST_PIECES:
            raise NoFit("a side without a row, or more than six pieces")
        parts = [(loops, rows[:self.row]), (loops, rows[self.row:])]
        return program[:self.piece] + parts + program[self.piece + 1:]

    def there(self, program, doing):
        """The new program's doing for one of the old program."""
        piece, row, turn = doing
        if piece > self.piece:
            return piece + 1, row, turn
        if piece == self.piece and row >= self.row:
            return piece + 1, row - self.row, turn
        return doing

    def back(self, program, doing):
        """The old program's doing for one of the new program."""
        piece, row, turn = doing
        if piece <= self.piece:
            return doing
        if piece == self.piece + 1:
            return self.piece, row + self.row, turn
        return piece - 1, row, turn

    def words(self):
        """The turning as a text."""
        return words_of("part", [self.piece, self.row])
