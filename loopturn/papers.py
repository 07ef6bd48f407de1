"""Papers: lists of parts by which anybody sees that no two turns meet, or none earlier than a pair."""

from loopturn.loops import box_of, is_turn
from loopturn.rests import misses
from loopturn.rows import cell_of
from loopturn.sums import least, most, sum_times


def equations_of(place, spot):
    """A list of sums that are 0 just where the places' sums are the same; none where the places are unlike."""
    if are_unlike(place, spot):
        return []
    return [one_less_other(one, other) for one, other in zip(place[1], spot[1])]


def are_unlike(place, spot):
    """True where the places' tables, or how many sums they have, are unlike, else False."""
    return place[0] != spot[0] or len(place[1]) != len(spot[1])


def one_less_other(one, other):
    """The one sum less the other, over the names of the one and then those of the other."""
    *weights, number = one
    *others, less = sum_times(-1, other)
    return tuple(weights + others + [number + less])


def conditions_of(one, other):
    """A list of sums over all names that are not below 0 just where the ends of both loops are kept."""
    names = len(one) + len(other)
    return conditions_from(one, 0, names) + conditions_from(other, len(one), names)


def conditions_from(loops, start, names):
    """The conditions of loops whose names are counted from start on, over that many names in all."""
    conditions = []
    for name, lows, highs in loops:
        conditions.extend([sum_times(-1, end_less_value(low, start, names)) for low in lows])
        conditions.extend([end_less_value(high, start, names) for high in highs])
    return conditions


def end_less_value(end, start, names):
    """The sum of an end less by times the name of its loop, over all names."""
    by, total = end
    *weights, number = total
    # An end's sum is over the loops outside, so the name right behind them is the one of its own loop.
    spread = [0] * start + weights + [-by]
    return tuple(spread + [0] * (names - len(spread)) + [number])


class Question:
    """What the parts of a paper are looked at with: two places in their loops, and a pair or None."""

    def __init__(self, one, place, other, spot, pair):
        self.unlike = are_unlike(place, spot)
        self.equations = equations_of(place, spot)
        self.conditions = conditions_of(one, other)
        self.wanted = None if pair is None else pair[0] + pair[1]


def holds(one, place, other, spot, pair, paper):
    """True where the paper holds for the pair, or for None, else False."""
    if pair is not None and not is_pair(one, place, other, spot, pair):
        return False
    question = Question(one, place, other, spot, pair)
    waiting = [first_box(one, other)]
    for part in paper:
        if not waiting:
            return False
        box = waiting.pop()
        if not part_holds(question, box, part):
            return False
        waiting.extend(boxes_laid(box, part))
    return not waiting


def is_pair(one, place, other, spot, pair):
    """True where a pair is two turns that meet, else False."""
    turn, spot_turn = pair
    if not is_turn(one, turn) or not is_turn(other, spot_turn):
        return False
    return cell_of(place, turn) == cell_of(spot, spot_turn)


def first_box(one, other):
    """The box that waits at first: of all names, those of the one loops and then those of the other."""
    return box_of(one) + box_of(other)


def boxes_laid(box, part):
    """The boxes that a part lays that holds for a box, the one that is laid last at the end."""
    if part[0] != "split":
        return []
    word, k, at = part
    low, high = box[k]
    return [box[:k] + [(at + 1, high)] + box[k + 1:], box[:k] + [(low, at)] + box[k + 1:]]


def split_holds(question, box, part):
    """Whether a split parts the values of its name in two."""
    word, k, at = part
    return 0 <= k < len(box) and box[k][0] <= at < box[k][1]


def none_holds(question, box, part):
    """Whether a name has no values."""
    word, k = part
    return 0 <= k < len(box) and box[k][0] > box[k][1]


def unlike_holds(question, box, part):
    """Whether no cells of the places are ever the same, whatever the turns."""
    return question.unlike


def rest_holds(question, box, part):
    """Whether the weights of the names that aren't fixed rule out an equation."""
    word, e = part
    return 0 <= e < len(question.equations) and misses(with_fixed(question.equations[e], box))


def with_fixed(total, box):
    """The sum over those names whose low isn't equal to their high, all others put in as numbers."""
    *weights, number = total
    left = []
    for weight, (low, high) in zip(weights, box):
        if low == high:
            number += weight * low
        else:
            left.append(weight)
    return tuple(left + [number])


def bound_holds(question, box, part):
    """Whether an equation or a condition is ruled out by its least or its most."""
    word, k = part
    many = len(question.equations)
    if 0 <= k < many:
        equation = question.equations[k]
        return least(equation, box) > 0 or most(equation, box) < 0
    return many <= k < many + len(question.conditions) and most(question.conditions[k - many], box) < 0


def found_holds(question, box, part):
    """Whether the box is the pair itself."""
    return question.wanted is not None and box == [(value, value) for value in question.wanted]


def later_holds(question, box, part):
    """Whether all of the box comes behind the pair."""
    return question.wanted is not None and tuple([low for low, high in box]) > question.wanted


CHECKS = {
    "split": split_holds,
    "none": none_holds,
    "unlike": unlike_holds,
    "rest": rest_holds,
    "bound": bound_holds,
    "found": found_holds,
    "later": later_holds,
}


def part_holds(question, box, part):
    """True where a part holds for the box that it is about, else False."""
    check = CHECKS[part[0]]
    return check(question, box, part)
