"""What turnings share: the piece that they are about, and sums changed throughout loops and rows."""

from loopturn.errors import NoFit
from loopturn.sums import widened
from loopturn.words import number_text


def piece_of(program, piece):
    """The piece of that number, or NoFit where there is none."""
    if not 0 <= piece < len(program):
        raise NoFit("no piece of that number")
    return program[piece]


def loops_for(program, piece, at):
    """The loops of the piece of that number, or NoFit where there is none, or they have no loop of the number at."""
    loops, rows = piece_of(program, piece)
    if not 0 <= at < len(loops):
        raise NoFit("no loop of that number")
    return loops


def with_loops(program, piece, at, many, fresh, change):
    """A new program: fresh loops for so many from at on, and all sums of deeper ends and of rows changed."""
    loops, rows = program[piece]
    new_loops = loops[:at] + fresh + changed_loops(loops[at + many:], change)
    return program[:piece] + [(new_loops, changed_rows(rows, change))] + program[piece + 1:]


def changed_ends(ends, change):
    """Ends with their sums changed."""
    return tuple([(by, change(total)) for by, total in ends])


def widened_ends(ends, at):
    """Ends with one name more, of weight 0, put in at a place."""
    return changed_ends(ends, lambda total: widened(total, at))


def changed_loops(loops, change):
    """Loops with all sums of their ends changed."""
    return tuple([(name, changed_ends(lows, change), changed_ends(highs, change)) for name, lows, highs in loops])


def changed_rows(rows, change):
    """Rows with all their sums changed."""
    return tuple([changed_row(row, change) for row in rows])


def changed_row(row, change):
    """A row with all its sums changed."""
    place, (total, terms) = row
    new_terms = [
        (weight, tuple([changed_place(factor, change) for factor in places]))
        for weight, places in terms
    ]
    return changed_place(place, change), (change(total), tuple(new_terms))


def changed_place(place, change):
    """A place with its sums changed."""
    table, sums = place
    return table, tuple([change(total) for total in sums])


def name_at(at, names):
    """The sum over so many names that has weight 1 for the name at, and else 0s."""
    return (0,) * at + (1,) + (0,) * (names - at)


def parts_with(parts, at, part):
    """A sum or a turn with another part at a place."""
    return parts[:at] + (part,) + parts[at + 1:]


def words_of(word, numbers):
    """The text of a turning: its word and its numbers, with one blank between."""
    return " ".join([word] + [number_text(number) for number in numbers])
