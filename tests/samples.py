"""Things that several tests hand in. Each draw gives the same programs every time."""

import contextlib
import random
import signal

SIXTY_NINES = 10 ** 60 - 1
SIXTY_MIXED = 314159265358979323846264338327950288419716939937510582097494
SMALL = (-3, -2, -1, -1, 0, 0, 0, 1, 1, 1, 2, 3)
GREAT = SMALL + (10, -10, 100, 10 ** 30 + 1, -SIXTY_MIXED, SIXTY_NINES, -SIXTY_NINES)
NAMES = ("i", "j", "k", "a", "b", "ab", "ba", "abc", "too", "ends", "loops", "fro", "abcdefgh", "abcdefgi", "z")


def span(name, low, high, outer=0):
    """A loop from a number to a number, with so many loops outside it."""
    zeros = (0,) * outer
    return (name, ((1, zeros + (low,)),), ((1, zeros + (high,)),))


def at(table, *sums):
    """A place."""
    return (table, sums)


def row_of(place, total, *terms):
    """A row."""
    return (place, (total, terms))


EXAMPLE = """loop i from 0 to 9
loop j from i, 2 to 2i+4, 19/2
a[i, j] = 3i-7 + 2*a[i-1, j]*b[0] + -1*b[j]
end"""
EXAMPLE_PROGRAM = [
    (
        (span("i", 0, 9), ("j", ((1, (1, 0)), (1, (0, 2))), ((1, (2, 4)), (2, (0, 19))))),
        (
            row_of(
                at("a", (1, 0, 0), (0, 1, 0)),
                (3, 0, -7),
                (2, (at("a", (1, 0, -1), (0, 1, 0)), at("b", (0, 0, 0)))),
                (-1, (at("b", (0, 1, 0)),)),
            ),
        ),
    )
]


@contextlib.contextmanager
def at_once(seconds=20):
    """Fails where what is done within takes so long: far above what it takes, far below 10 ** 30 steps."""

    def ring(number, frame):
        raise AssertionError("not told at once")

    before = signal.signal(signal.SIGALRM, ring)
    signal.alarm(seconds)
    try:
        yield
    finally:
        signal.alarm(0)
        signal.signal(signal.SIGALRM, before)


class Draw:
    """Programs of all sizes that the points let, drawn from a source that is the same each time."""

    def __init__(self, seed, numbers=GREAT):
        self.source = random.Random(seed)
        self.numbers = numbers

    def upto(self, low, high):
        return self.source.randint(low, high)

    def total(self, names):
        return tuple(self.source.choice(self.numbers) for part in range(names + 1))

    def end(self, names):
        by = abs(self.source.choice(self.numbers)) or 1
        return (by, self.total(names))

    def ends(self, names):
        return tuple(self.end(names) for end in range(self.source.choice((1, 1, 1, 2, 3))))

    def bounded_loop(self, name, outer):
        """A loop whose values lie from -2 to 3, whatever its other ends are."""
        zeros = (0,) * outer
        lows = [(1, zeros + (self.upto(-2, 1),))] + [self.end(outer) for end in range(self.upto(0, 1))]
        highs = [(1, zeros + (self.upto(0, 3),))] + [self.end(outer) for end in range(self.upto(0, 1))]
        self.source.shuffle(lows)
        self.source.shuffle(highs)
        return (name, tuple(lows), tuple(highs))

    def place(self, names, tables=NAMES):
        return (self.source.choice(tables), tuple(self.total(names) for one in range(self.upto(1, 2))))

    def row(self, names, tables=NAMES):
        terms = tuple(
            (self.source.choice(self.numbers), tuple(self.place(names, tables) for one in range(self.upto(1, 2))))
            for term in range(self.upto(0, 4))
        )
        return (self.place(names, tables), (self.total(names), terms))

    def piece(self):
        names = self.source.sample(NAMES, self.upto(1, 3))
        loops = tuple((name, self.ends(outer), self.ends(outer)) for outer, name in enumerate(names))
        return (loops, tuple(self.row(len(names)) for row in range(self.source.choice((1, 1, 2, 3, 8)))))

    def program(self):
        """A program of any count, for texts."""
        return [self.piece() for piece in range(self.source.choice((1, 1, 1, 2, 3, 6)))]

    def small_piece(self):
        names = self.source.sample(NAMES, self.upto(1, 3))
        loops = tuple(self.bounded_loop(name, outer) for outer, name in enumerate(names))
        tables = ("a", "ab")
        return (loops, tuple(self.row(len(names), tables) for row in range(self.source.choice((1, 2, 3, 8)))))

    def small_program(self):
        """A program of few values, for runs; its size may be above 1000 all the same."""
        return [self.small_piece() for piece in range(self.source.choice((1, 1, 2, 3, 6)))]

    def sparse_place(self, names):
        """A place with a name alone in each sum."""
        sums = []
        for one in range(min(names, 2)):
            weights = [0] * names
            weights[self.upto(0, names - 1)] = self.source.choice((1, 1, 1, -1, 2))
            sums.append(tuple(weights) + (self.upto(-1, 1),))
        return (self.source.choice("abc"), tuple(sums))

    def sparse_piece(self, loops):
        names, rows = len(loops), []
        for row in range(self.upto(1, 3)):
            terms = [(self.upto(-2, 2), (self.sparse_place(names),)) for term in range(self.upto(0, 2))]
            rows.append((self.sparse_place(names), (self.total(names), tuple(terms))))
        return (loops, tuple(rows))

    def sparse_program(self):
        """A program of one piece, or of two with the same ends, whose rows touch now and then."""
        loops = tuple(self.bounded_loop(name, outer) for outer, name in enumerate("ijk"[:self.upto(1, 3)]))
        program = [self.sparse_piece(loops)]
        if self.upto(0, 1):
            program.append(self.sparse_piece(tuple((name + "x", lows, highs) for name, lows, highs in loops)))
        return program

    def tables(self):
        """Tables with some of the cells that such a program uses, and some that it doesn't."""
        told = {}
        for cell in range(self.upto(0, 40)):
            numbers = tuple(self.upto(-4, 6) for one in range(self.upto(1, 2)))
            told[(self.source.choice(("a", "ab", "other")), numbers)] = self.source.choice((0, 1, 7, 1000000006))
        return told
