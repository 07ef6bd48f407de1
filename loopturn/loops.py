"""Loops within loops: their values, their turns, their count and their box."""

from loopturn.errors import TooMany
from loopturn.rounding import down_by, up_by
from loopturn.sums import least, most, worth

MOST_VALUES = 1000


def first_of(loop, turn):
    """The greatest of the loop's lows, rounded up, for the values of the loops outside it."""
    lows = loop[1]
    return max([up_by(worth(total, turn), by) for by, total in lows])


def last_of(loop, turn):
    """The least of the loop's highs, rounded down, for the values of the loops outside it."""
    highs = loop[2]
    return min([down_by(worth(total, turn), by) for by, total in highs])


def is_turn(loops, turn):
    """True where each value is one of its loop for the values ahead of it, else False."""
    return all(
        first_of(loop, turn[:at]) <= turn[at] <= last_of(loop, turn[:at])
        for at, loop in enumerate(loops)
    )


def turns_of(loops):
    """A list of all turns in their order, or TooMany where the count is above 1000."""
    return count_and_turns(loops)[1]


def count_of(loops):
    """How many values the loops take, or TooMany where these are above 1000."""
    return count_and_turns(loops)[0]


def count_and_turns(loops):
    """The count of loops and their turns, or TooMany where the count is above 1000."""
    count = 0
    turns = [()]
    for loop in loops:
        spans = [(turn, first_of(loop, turn), last_of(loop, turn)) for turn in turns]
        # Counted by the ends alone ahead of going through them: there may be too many values to go through.
        count += sum([max(0, last - first + 1) for turn, first, last in spans])
        if count > MOST_VALUES:
            raise TooMany("the loops take more than 1000 values")
        turns = [turn + (value,) for turn, first, last in spans for value in range(first, last + 1)]
    return count, turns


def box_of(loops):
    """A list of a pair (low, high) for each loop, in which each turn lies."""
    box = []
    for name, lows, highs in loops:
        low = max([up_by(least(total, box), by) for by, total in lows])
        high = min([down_by(most(total, box), by) for by, total in highs])
        box.append((low, high))
    return box
