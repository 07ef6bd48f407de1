"""Sums over names: tuples of a weight for each name, then a number."""


def worth(total, turn):
    """The worth of a sum at a turn: each weight times its value, all added, and the number."""
    *weights, number = total
    return number + sum([weight * value for weight, value in zip(weights, turn)])


def sum_plus(one, other):
    """Two sums over the same names, added."""
    return tuple(part + more for part, more in zip(one, other))


def sum_times(number, total):
    """A sum, each part taken that number of times."""
    return tuple(number * part for part in total)


def put_in(total, at, other):
    """The sum with the other one put in for the name at a place."""
    # The other sum may have a weight for that name itself, so the old weight is taken out ahead of adding.
    others_alone = total[:at] + (0,) + total[at + 1:]
    return sum_plus(others_alone, sum_times(total[at], other))


def swapped(total, at):
    """The sum with the weights at a place and at the next one exchanged."""
    return total[:at] + (total[at + 1], total[at]) + total[at + 2:]


def widened(total, at):
    """The sum over one name more, of weight 0, put in at a place."""
    return total[:at] + (0,) + total[at:]


def least(total, box):
    """The least of a sum in a box, told by the pairs as they stand, also where a low is above its high."""
    *weights, number = total
    return number + sum([weight * (low if weight > 0 else high) for weight, (low, high) in zip(weights, box)])


def most(total, box):
    """The most of a sum in a box, told by the pairs as they stand, also where a low is above its high."""
    *weights, number = total
    return number + sum([weight * (high if weight > 0 else low) for weight, (low, high) in zip(weights, box)])
