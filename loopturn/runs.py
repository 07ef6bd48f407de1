"""Programs run: their doings, their size, and the tables that they leave."""

from loopturn.errors import TooMany
from loopturn.loops import count_and_turns, turns_of
from loopturn.rows import number_of, written_by

MOST_SIZE = 1000


def size_of(program):
    """The counts of all pieces' loops and the number of all doings, added, or TooMany where that is above 1000."""
    size = 0
    for loops, rows in program:
        count, turns = count_and_turns(loops)
        size += count + len(turns) * len(rows)
    if size > MOST_SIZE:
        raise TooMany("the program's size is above 1000")
    return size


def doings_of(program):
    """A list of all doings in their order, or TooMany where the program's size is above 1000."""
    # Asked for its refusal alone: values without a doing count as well, so the doings don't tell the size.
    size_of(program)
    return [
        (piece, row, turn)
        for piece, (loops, rows) in enumerate(program)
        for turn in turns_of(loops)
        for row in range(len(rows))
    ]


def done_in(program, order, start):
    """The tables behind the doings in the order that is handed in, from the tables at the start."""
    tables = {cell: start[cell] for cell in start}
    for piece, at, turn in order:
        row = program[piece][1][at]
        tables[written_by(row, turn)] = number_of(row, turn, tables)
    return tables


def run(program, start):
    """The tables behind all doings in their order, or TooMany where the program's size is above 1000."""
    return done_in(program, doings_of(program), start)
