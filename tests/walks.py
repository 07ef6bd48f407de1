"""Papers walked, and places brought together, by the document's words alone: nothing of the package is used here."""

import itertools


def worth(total, values):
    return sum(weight * value for weight, value in zip(total, values)) + total[-1]


def box_by_hand(loops):
    """The box of loops, each end by itself."""
    box = []
    for name, lows, highs in loops:
        low = max(-(-extreme(total, box, False) // by) for by, total in lows)
        high = min(extreme(total, box, True) // by for by, total in highs)
        box.append((low, high))
    return box


def extreme(total, box, highest):
    """The most of a sum in a box, or its least."""
    reached = total[-1]
    for weight, pair in zip(total, box):
        reached += weight * (pair[1] if (weight > 0) == highest else pair[0])
    return reached


def turns_by_hand(loops):
    """All turns of loops of few values: those points of the box that keep all ends, in the order of tuples."""
    spans = [range(low, high + 1) for low, high in box_by_hand(loops)]
    return [turn for turn in itertools.product(*spans) if keeps_ends(loops, turn)]


def keeps_ends(loops, turn):
    for at, (name, lows, highs) in enumerate(loops):
        if any(by * turn[at] < worth(total, turn[:at]) for by, total in lows):
            return False
        if any(by * turn[at] > worth(total, turn[:at]) for by, total in highs):
            return False
    return True


def cell_by_hand(place, turn):
    return (place[0], tuple(worth(total, turn) for total in place[1]))


def first_meeting(one, place, other, spot):
    """The first two turns that meet, by going through all, or None."""
    others = [(turn, cell_by_hand(spot, turn)) for turn in turns_by_hand(other)]
    for turn in turns_by_hand(one):
        cell = cell_by_hand(place, turn)
        for there, other_cell in others:
            if cell == other_cell:
                return (turn, there)
    return None


def points_of(box):
    """How many points a box has."""
    points = 1
    for low, high in box:
        points *= max(0, high - low + 1)
    return points


class Asked:
    """Two places in their loops, with all names counted through."""

    def __init__(self, one, place, other, spot):
        self.one, self.place, self.other, self.spot = one, place, other, spot
        self.box = box_by_hand(one) + box_by_hand(other)
        self.unlike = (place[0], len(place[1])) != (spot[0], len(spot[1]))
        self.many = len(one)
        self.names = len(one) + len(other)

    def equations(self):
        """Each as a function of all values, and as weights and a number."""
        if self.unlike:
            return []
        told = []
        for mine, yours in zip(self.place[1], self.spot[1]):
            weights = {at: weight for at, weight in enumerate(mine[:-1])}
            weights.update({self.many + at: -weight for at, weight in enumerate(yours[:-1])})
            told.append(self.as_sum(weights, mine[-1] - yours[-1]))
        return told

    def conditions(self):
        told = []
        for start, loops in ((0, self.one), (self.many, self.other)):
            for at, (name, lows, highs) in enumerate(loops):
                for sign, ends in ((-1, lows), (1, highs)):
                    for by, total in ends:
                        weights = {start + outer: sign * weight for outer, weight in enumerate(total[:-1])}
                        weights[start + at] = -sign * by
                        told.append(self.as_sum(weights, sign * total[-1]))
        return told

    def as_sum(self, weights, number):
        return tuple(weights.get(at, 0) for at in range(self.names)) + (number,)

    def lone_parts(self, box):
        """All parts that show by themselves that no two meet in a box."""
        parts = [("unlike",)] + [("none", k) for k in range(self.names)]
        parts += [("rest", e) for e in range(len(self.equations()))]
        parts += [("bound", k) for k in range(len(self.equations()) + len(self.conditions()))]
        return [part for part in parts if self.lays(box, part, None) is not None]

    def holds(self, pair, paper):
        """Whether a paper holds; the waiting boxes are those that the walk has still to come back to."""
        if pair is not None:
            if not keeps_ends(self.one, pair[0]) or not keeps_ends(self.other, pair[1]):
                return False
            if cell_by_hand(self.place, pair[0]) != cell_by_hand(self.spot, pair[1]):
                return False
        waiting, parts = (self.box, ()), list(paper)
        while parts and waiting != ():
            box, waiting = waiting
            laid = self.lays(box, parts.pop(0), pair)
            if laid is None:
                return False
            for new in laid:
                waiting = (new, waiting)
        return not parts and waiting == ()

    def lays(self, box, part, pair):
        """The boxes that a part lays, or None where it doesn't hold."""
        done = None
        word, numbers = part[0], part[1:]
        if word == "split":
            k, at = numbers
            if k in range(self.names) and box[k][0] <= at and at + 1 <= box[k][1]:
                upper, lower = list(box), list(box)
                upper[k] = (at + 1, box[k][1])
                lower[k] = (box[k][0], at)
                done = [upper, lower]
        elif word == "none":
            if numbers[0] in range(self.names) and box[numbers[0]][1] < box[numbers[0]][0]:
                done = []
        elif word == "unlike":
            if self.unlike:
                done = []
        elif word == "rest":
            if numbers[0] in range(len(self.equations())) and self.ruled_out(box, numbers[0]):
                done = []
        elif word == "bound":
            if self.out_of_bounds(box, numbers[0]):
                done = []
        elif pair is not None:
            values = list(pair[0]) + list(pair[1])
            lows = [low for low, high in box]
            if word == "found" and lows == values and [high for low, high in box] == values:
                done = []
            if word == "later" and lows > values:
                done = []
        return done

    def ruled_out(self, box, at):
        equation = self.equations()[at]
        left = [weight for weight, (low, high) in zip(equation, box) if low != high and weight != 0]
        number = equation[-1] + sum(weight * low for weight, (low, high) in zip(equation, box) if low == high)
        if not left:
            return number != 0
        shared = abs(left[0])
        for weight in left[1:]:
            weight = abs(weight)
            while weight:
                shared, weight = weight, shared % weight
        return number % shared != 0

    def out_of_bounds(self, box, at):
        equations, conditions = self.equations(), self.conditions()
        if at < 0 or at >= len(equations) + len(conditions):
            return False
        if at < len(equations):
            return extreme(equations[at], box, False) > 0 or extreme(equations[at], box, True) < 0
        return extreme(conditions[at - len(equations)], box, True) < 0
