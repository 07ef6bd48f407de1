"""The ends of two loops, one right within the other, that are exchanged."""

from loopturn.changes import parts_with, widened_ends
from loopturn.loops import box_of
from loopturn.sums import sum_times


def inner_brought_out(loops, at):
    """The loop that was at + 1, as it stands at the place at: it keeps the ends that don't name the loop at."""
    name, lows, highs = loops[at + 1]
    low, high = box_of(loops)[at + 1]
    return name, ends_without(lows, at, low), ends_without(highs, at, high)


def ends_without(ends, at, number):
    """The ends of weight 0 for the loop at, without that weight, and behind them the plain end of the box."""
    kept = [(by, total[:at] + total[at + 1:]) for by, total in ends if total[at] == 0]
    plain = (1, (0,) * at + (number,))
    if plain not in kept:
        kept.append(plain)
    return tuple(kept)


def outer_brought_in(loops, at):
    """The loop at, as it stands at the place at + 1: it takes those ends of the other one that name it."""
    name, lows, highs = loops[at]
    other, other_lows, other_highs = loops[at + 1]
    # By a weight below 0 a low stays a low for the loop that it names, and a high a high; above 0 they change.
    more_lows = ends_below(other_lows, at) + ends_above(other_highs, at)
    more_highs = ends_above(other_lows, at) + ends_below(other_highs, at)
    return name, widened_ends(lows, at) + more_lows, widened_ends(highs, at) + more_highs


def ends_below(ends, at):
    """Of those ends (by, sum) that have a weight w below 0 for x, the loop at: (-w, sum - by y)."""
    return tuple([(-total[at], parts_with(total, at, -by)) for by, total in ends if total[at] < 0])


def ends_above(ends, at):
    """Of those ends (by, sum) that have a weight w above 0 for x, the loop at: (w, by y - sum)."""
    return tuple([(total[at], parts_with(sum_times(-1, total), at, by)) for by, total in ends if total[at] > 0])
