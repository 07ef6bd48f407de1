"""Turnings by the document's words, over sums that are told by their names: nothing of the package is used here.

A sum is a dict from names to weights, with its number under "". So a sum doesn't change where loops change places.
"""

from walks import box_by_hand, cell_by_hand, turns_by_hand


def named(total, names):
    told = dict(zip(names, total))
    told[""] = total[-1]
    return told


def placed(told, names):
    """The tuple of a named sum; none of its weights is lost."""
    if any(weight != 0 for name, weight in told.items() if name not in names and name != ""):
        raise AssertionError("a name that isn't there")
    return tuple(told.get(name, 0) for name in names) + (told.get("", 0),)


def added(*sums):
    told = {}
    for one in sums:
        for name, weight in one.items():
            told[name] = told.get(name, 0) + weight
    return told


def times(number, one):
    return {name: number * weight for name, weight in one.items()}


def instead(one, name, other):
    """A sum with another one in the place of a name."""
    rest = {part: weight for part, weight in one.items() if part != name}
    return added(rest, times(one.get(name, 0), other))


class Nest:
    """A piece by names: loops as [name, lows, highs] with ends [by, sum], rows with named sums."""

    def __init__(self, piece):
        loops, rows = piece
        names = [loop[0] for loop in loops]
        self.loops = [
            [name, [[by, named(total, names[:at])] for by, total in lows],
             [[by, named(total, names[:at])] for by, total in highs]]
            for at, (name, lows, highs) in enumerate(loops)
        ]
        self.rows = [self.row_through(row, lambda total: named(total, names)) for row in rows]

    def row_through(self, row, change):
        (table, sums), (total, terms) = row
        return (
            (table, tuple(change(one) for one in sums)),
            (change(total), tuple(
                (weight, tuple((name, tuple(change(one) for one in more)) for name, more in places))
                for weight, places in terms
            )),
        )

    def names(self):
        return [loop[0] for loop in self.loops]

    def put_in_behind(self, at, name, other):
        """Another sum for a name, in all rows and in the ends of loops deeper than at."""
        self.rows = [self.row_through(row, lambda total: instead(total, name, other)) for row in self.rows]
        for loop in self.loops[at + 1:]:
            for ends in loop[1:]:
                for end in ends:
                    end[1] = instead(end[1], name, other)

    def piece(self):
        names = self.names()
        loops = tuple(
            (name, tuple((by, placed(total, names[:at])) for by, total in lows),
             tuple((by, placed(total, names[:at])) for by, total in highs))
            for at, (name, lows, highs) in enumerate(self.loops)
        )
        return loops, tuple(self.row_through(row, lambda total: placed(total, names)) for row in self.rows)


def swap(piece, at):
    nest = Nest(piece)
    low, high = box_by_hand(piece[0])[at + 1]
    (x, x_lows, x_highs), (y, y_lows, y_highs) = nest.loops[at:at + 2]
    lows = [end for end in y_lows if end[1].get(x, 0) == 0]
    highs = [end for end in y_highs if end[1].get(x, 0) == 0]
    outer = nest.names()[:at]
    for ends, number in ((lows, low), (highs, high)):
        as_tuples = [(by, placed(total, outer)) for by, total in ends]
        if (1, placed({"": number}, outer)) not in as_tuples:
            ends.append([1, {"": number}])
    new_lows, new_highs = list(x_lows), list(x_highs)
    for is_low, ends in ((True, y_lows), (False, y_highs)):
        for by, total in ends:
            w = total.get(x, 0)
            rest = {name: weight for name, weight in total.items() if name != x}
            if w < 0:
                end = [-w, added(rest, {y: -by})]
                (new_lows if is_low else new_highs).append(end)
            if w > 0:
                end = [w, added({y: by}, times(-1, rest))]
                (new_highs if is_low else new_lows).append(end)
    nest.loops[at:at + 2] = [[y, lows, highs], [x, new_lows, new_highs]]
    return nest.piece()


def back(piece, at):
    nest = Nest(piece)
    name, lows, highs = nest.loops[at]
    nest.loops[at] = [
        name, [[by, times(-1, total)] for by, total in highs], [[by, times(-1, total)] for by, total in lows],
    ]
    nest.put_in_behind(at, name, {name: -1})
    return nest.piece()


def slant(piece, at, outer, far):
    nest = Nest(piece)
    name, lows, highs = nest.loops[at]
    out = nest.names()[outer]
    for end in lows + highs:
        end[1] = added(end[1], {out: end[0] * far})
    nest.put_in_behind(at, name, {name: 1, out: -far})
    return nest.piece()


def shift(piece, at, far):
    nest = Nest(piece)
    name, lows, highs = nest.loops[at]
    for end in lows + highs:
        end[1] = added(end[1], {"": end[0] * far})
    nest.put_in_behind(at, name, {name: 1, "": -far})
    return nest.piece()


def strips(piece, at, wide, name):
    nest = Nest(piece)
    old, lows, highs = nest.loops[at]
    strip = [
        name,
        [[by * wide, added(total, {"": -by * (wide - 1)})] for by, total in lows],
        [[by * wide, total] for by, total in highs],
    ]
    within = [old, lows + [[1, {name: wide}]], highs + [[1, {name: wide, "": wide - 1}]]]
    nest.loops[at:at + 1] = [strip, within]
    return nest.piece()


def all_doings(program):
    """All doings of a program of few values, in their order, whatever its size."""
    return [
        (piece, row, turn)
        for piece, (loops, rows) in enumerate(program)
        for turn in turns_by_hand(loops)
        for row in range(len(rows))
    ]


def cells_at(program, doing):
    """The cell that a doing writes, and those that it reads."""
    piece, at, turn = doing
    place, (total, terms) = program[piece][1][at]
    return cell_by_hand(place, turn), [cell_by_hand(one, turn) for weight, places in terms for one in places]
