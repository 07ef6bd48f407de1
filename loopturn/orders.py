"""What may be turned, and what may go side by side: the order of doings that touch."""

from loopturn.changes import loops_for
from loopturn.errors import OutOfOrder
from loopturn.rows import read_by, written_by
from loopturn.runs import doings_of, size_of


def clash(program, turning):
    """The first two doings that touch and whose order the turning turns, or None; or NoFit, or TooMany."""
    small_enough(program, turning)
    return first_clash(program, turning)


def turned(program, turning):
    """The new program; or NoFit, TooMany, or OutOfOrder with the two doings of the clash."""
    new = small_enough(program, turning)
    pair = first_clash(program, turning)
    if pair is not None:
        first, second = pair
        raise OutOfOrder(first, second)
    return new


def small_enough(program, turning):
    """The new program; or NoFit, or TooMany where the size of the old one or of the new one is above 1000."""
    new = turning.made(program)
    # Both are asked for their refusals alone.
    size_of(program)
    size_of(new)
    return new


def first_clash(program, turning):
    """The first two doings that touch and whose order a turning that fits turns, or None."""
    doings = doings_of(program)
    places = [place_in_order(turning.there(program, doing)) for doing in doings]
    return first_touching(program, doings, lambda here, there: places[here] > places[there])


def place_in_order(doing):
    """What doings come in the order of: by piece, then by turn, then by row."""
    piece, row, turn = doing
    return piece, turn, row


def first_touching(program, doings, matters):
    """The first two of the doings that touch, one before the other, whose numbers matter, or None."""
    cells = [cells_of(program, doing) for doing in doings]
    for here in range(len(doings)):
        for there in range(here + 1, len(doings)):
            if matters(here, there) and in_touch(cells[here], cells[there]):
                return doings[here], doings[there]
    return None


def cells_of(program, doing):
    """The cell that a doing writes, and a dict of all that it writes or reads."""
    # Told once for each doing: there may be hundreds of thousands of pairs of them.
    piece, at, turn = doing
    row = program[piece][1][at]
    written = written_by(row, turn)
    return written, {cell: True for cell in [written] + read_by(row, turn)}


def in_touch(cells, others):
    """True where a cell that is written on one side is written or read on the other, else False."""
    written, used = cells
    other_written, other_used = others
    return written in other_used or other_written in used


def beside(program, piece, at):
    """None where the loop at of a piece may go side by side, else the first two doings against it; NoFit, TooMany."""
    loops_for(program, piece, at)
    doings = [doing for doing in doings_of(program) if doing[0] == piece]
    return first_touching(program, doings, lambda here, there: side_by_side(doings[here][2], doings[there][2], at))


def side_by_side(turn, other, at):
    """True where turns are alike in all values outside the loop at and unlike in its own, else False."""
    return turn[:at] == other[:at] and turn[at] != other[at]
