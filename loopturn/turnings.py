"""Turnings of one piece: loops exchanged, run backwards, slanted, shifted, cut into strips."""

from loopturn.changes import changed_ends, loops_for, name_at, parts_with, widened_ends, with_loops, words_of
from loopturn.errors import NoFit
from loopturn.exchanges import inner_brought_out, outer_brought_in
from loopturn.limits import MOST_LOOPS
from loopturn.rounding import down_by
from loopturn.sums import put_in, sum_plus, sum_times, swapped, widened


class Turning:
    """What all turnings stand under; of itself it is of no kind, and turns nothing."""

    def __init__(self, piece):
        self.piece = piece

    def made(self, program):
        """The new program, or NoFit where the turning doesn't fit."""
        raise NotImplementedError("a turning of no kind")

    def there(self, program, doing):
        """The new program's doing for one of the old program."""
        raise NotImplementedError("a turning of no kind")

    def back(self, program, doing):
        """The old program's doing for one of the new program."""
        raise NotImplementedError("a turning of no kind")

    def words(self):
        """The turning as a text."""
        raise NotImplementedError("a turning of no kind")


class Swap(Turning):
    """The loops at and at + 1 exchanged."""

    def __init__(self, piece, at):
        Turning.__init__(self, piece)
        self.at = at

    def made(self, program):
        """The new program, or NoFit where there is no such piece or loop, or no loop at + 1."""
        loops = loops_for(program, self.piece, self.at)
        at = self.at
        if at + 1 == len(loops):
            raise NoFit("no loop within the loop, to exchange it with")
        fresh = (inner_brought_out(loops, at), outer_brought_in(loops, at))
        return with_loops(program, self.piece, at, 2, fresh, lambda total: swapped(total, at))

    def there(self, program, doing):
        """The new program's doing for one of the old program."""
        piece, row, turn = doing
        if piece != self.piece:
            return doing
        # The values of a turn change places just as the weights of a sum do.
        return piece, row, swapped(turn, self.at)

    def back(self, program, doing):
        """The old program's doing for one of the new program: an exchange is its own way back."""
        return self.there(program, doing)

    def words(self):
        """The turning as a text."""
        return words_of("swap", [self.piece, self.at])


class Back(Turning):
    """The loop at run backwards."""

    def __init__(self, piece, at):
        Turning.__init__(self, piece)
        self.at = at

    def made(self, program):
        """The new program, or NoFit where there is no such piece or loop."""
        name, lows, highs = loops_for(program, self.piece, self.at)[self.at]
        at = self.at
        loop = (name, ends_turned_about(highs), ends_turned_about(lows))
        return with_loops(program, self.piece, at, 1, (loop,), lambda total: sign_turned(total, at))

    def there(self, program, doing):
        """The new program's doing for one of the old program."""
        piece, row, turn = doing
        if piece != self.piece:
            return doing
        return piece, row, sign_turned(turn, self.at)

    def back(self, program, doing):
        """The old program's doing for one of the new program: a sign turned twice is the old one."""
        return self.there(program, doing)

    def words(self):
        """The turning as a text."""
        return words_of("back", [self.piece, self.at])


def ends_turned_about(ends):
    """Ends for the values with the other sign; lows become highs by it, highs lows."""
    return changed_ends(ends, lambda total: sum_times(-1, total))


def sign_turned(parts, at):
    """A sum or a turn whose part at a place has the other sign."""
    return parts_with(parts, at, -parts[at])


class Slant(Turning):
    """The values of the loop at grown by far times those of the loop outer."""

    def __init__(self, piece, at, outer, far):
        Turning.__init__(self, piece)
        self.at = at
        self.outer = outer
        self.far = far

    def made(self, program):
        """The new program, or NoFit where there is no such piece or loop, or outer is no loop outside."""
        loops = loops_for(program, self.piece, self.at)
        at, outer, far = self.at, self.outer, self.far
        if not 0 <= outer < at:
            raise NoFit("no loop of that number outside the loop")
        more = sum_times(far, name_at(outer, at))
        return with_loops(
            program, self.piece, at, 1, (loop_grown(loops[at], more),),
            lambda total: put_in(total, at, slanted_back(at, outer, far, len(total) - 1)),
        )

    def there(self, program, doing):
        """The new program's doing for one of the old program."""
        piece, row, turn = doing
        if piece != self.piece:
            return doing
        return piece, row, value_grown(turn, self.at, self.far * turn[self.outer])

    def back(self, program, doing):
        """The old program's doing for one of the new program."""
        piece, row, turn = doing
        if piece != self.piece:
            return doing
        return piece, row, value_grown(turn, self.at, -self.far * turn[self.outer])

    def words(self):
        """The turning as a text."""
        return words_of("slant", [self.piece, self.at, self.outer, self.far])


def loop_grown(loop, more):
    """A loop whose values have grown by the worth of a sum over the loops outside."""
    name, lows, highs = loop
    return name, ends_grown(lows, more), ends_grown(highs, more)


def ends_grown(ends, more):
    """Ends of a loop whose values have grown by the worth of a sum over the loops outside."""
    return tuple([(by, sum_plus(total, sum_times(by, more))) for by, total in ends])


def value_grown(turn, at, more):
    """A turn whose value at a place has grown by a number."""
    return parts_with(turn, at, turn[at] + more)


def slanted_back(at, outer, far, names):
    """The name at less far times the name outer, over so many names."""
    return sum_plus(name_at(at, names), sum_times(-far, name_at(outer, names)))


class Shift(Turning):
    """The values of the loop at grown by far."""

    def __init__(self, piece, at, far):
        Turning.__init__(self, piece)
        self.at = at
        self.far = far

    def made(self, program):
        """The new program, or NoFit where there is no such piece or loop."""
        loops = loops_for(program, self.piece, self.at)
        at, far = self.at, self.far
        more = (0,) * at + (far,)
        return with_loops(
            program, self.piece, at, 1, (loop_grown(loops[at], more),),
            lambda total: put_in(total, at, shifted_back(at, far, len(total) - 1)),
        )

    def there(self, program, doing):
        """The new program's doing for one of the old program."""
        piece, row, turn = doing
        if piece != self.piece:
            return doing
        return piece, row, value_grown(turn, self.at, self.far)

    def back(self, program, doing):
        """The old program's doing for one of the new program."""
        piece, row, turn = doing
        if piece != self.piece:
            return doing
        return piece, row, value_grown(turn, self.at, -self.far)

    def words(self):
        """The turning as a text."""
        return words_of("shift", [self.piece, self.at, self.far])


def shifted_back(at, far, names):
    """The name at less far, over so many names."""
    return parts_with(name_at(at, names), names, -far)


class Strips(Turning):
    """The loop at cut into strips that are wide values wide."""

    def __init__(self, piece, at, wide, name="t"):
        Turning.__init__(self, piece)
        self.at = at
        self.wide = wide
        self.name = name

    def made(self, program):
        """The new program, or NoFit: no such piece or loop, wide below 2, three loops already, the name stands."""
        loops = loops_for(program, self.piece, self.at)
        at = self.at
        if self.wide < 2 or len(loops) >= MOST_LOOPS or self.name in [loop[0] for loop in loops]:
            raise NoFit("too narrow, too many loops, or a name that stands already")
        fresh = (strips_loop(loops[at], self.wide, self.name), loop_in_strips(loops[at], at, self.wide))
        return with_loops(program, self.piece, at, 1, fresh, lambda total: widened(total, at))

    def there(self, program, doing):
        """The new program's doing for one of the old program."""
        piece, row, turn = doing
        if piece != self.piece:
            return doing
        return piece, row, turn[:self.at] + (down_by(turn[self.at], self.wide),) + turn[self.at:]

    def back(self, program, doing):
        """The old program's doing for one of the new program."""
        piece, row, turn = doing
        if piece != self.piece:
            return doing
        return piece, row, turn[:self.at] + turn[self.at + 1:]

    def words(self):
        """The turning as a text."""
        return words_of("strips", [self.piece, self.at, self.wide]) + " " + self.name


def strips_loop(loop, wide, new_name):
    """The new loop outside, whose values are the loop's values by wide, rounded down."""
    name, lows, highs = loop
    return (
        new_name,
        tuple([(by * wide, number_added(total, -by * (wide - 1))) for by, total in lows]),
        tuple([(by * wide, total) for by, total in highs]),
    )


def number_added(total, number):
    """A sum whose number has grown by a number."""
    return parts_with(total, len(total) - 1, total[-1] + number)


def loop_in_strips(loop, at, wide):
    """The loop within the new one at, bounded by its strip as well."""
    name, lows, highs = loop
    first = sum_times(wide, name_at(at, at + 1))
    return (
        name,
        widened_ends(lows, at) + ((1, first),),
        widened_ends(highs, at) + ((1, number_added(first, wide - 1)),),
    )
