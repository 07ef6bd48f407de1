"""Texts read as programs.

The parts are read somewhat loosely: that a text is just what its program is written as is looked at once, in read,
by writing the program again. What the parts do look at is what that would not show: that numbers, names and how many
there are of each thing are such as a program may have.
"""

from loopturn.errors import NoText
from loopturn.limits import MOST_LOOPS, MOST_PIECES, MOST_PLACES, MOST_ROWS, MOST_SUMS, MOST_TERMS
from loopturn.texts import shown
from loopturn.words import LETTERS, is_name, number_in


def read(text):
    """The program that a text writes, or NoText where it writes none, or is no text."""
    if not isinstance(text, str):
        raise NoText("no text")
    program = program_in(text.split("\n"))
    if shown(program) != text:
        raise NoText("not as a program is written")
    return program


def program_in(lines):
    """The program that lines write."""
    program = []
    waiting = []
    for line in lines:
        if line == "end":
            program.append(piece_in(waiting))
            waiting = []
        else:
            waiting.append(line)
    if waiting or not 1 <= len(program) <= MOST_PIECES:
        raise NoText("not one to six pieces, each with its end")
    return program


def piece_in(lines):
    """The piece that the lines ahead of an end write."""
    loops = []
    rows = []
    names = []
    for line in lines:
        if line.startswith("loop ") and not rows:
            loop = loop_in(line, names)
            loops.append(loop)
            names.append(loop[0])
        else:
            rows.append(row_in(line, names))
    if not 1 <= len(loops) <= MOST_LOOPS or not 1 <= len(rows) <= MOST_ROWS:
        raise NoText("not one to three loops and one to eight rows")
    return tuple(loops), tuple(rows)


def loop_in(line, names):
    """The loop that a line writes, with the names of the loops outside it."""
    name, gap, ends = line.removeprefix("loop ").partition(" from ")
    lows, gap, highs = ends.partition(" to ")
    if not is_name(name) or name in names:
        raise NoText("no name for a loop, or one that stands already")
    return name, ends_in(lows, names), ends_in(highs, names)


def ends_in(text, names):
    """The ends that a text writes."""
    return tuple([end_in(part, names) for part in text.split(", ")])


def end_in(text, names):
    """The end that a text writes."""
    total, slash, divisor = text.partition("/")
    by = number_in(divisor) if slash else 1
    if by < 1:
        raise NoText("an end by a number below 1")
    return by, sum_in(total, names)


def row_in(line, names):
    """The row that a line writes."""
    place, gap, right = line.partition(" = ")
    total, *terms = right.split(" + ")
    if len(terms) > MOST_TERMS:
        raise NoText("more than four terms")
    return place_in(place, names), (sum_in(total, names), tuple([term_in(term, names) for term in terms]))


def term_in(text, names):
    """The term that a text writes."""
    weight, *places = text.split("*")
    if not 1 <= len(places) <= MOST_PLACES:
        raise NoText("not one or two places in a term")
    return number_in(weight), tuple([place_in(place, names) for place in places])


def place_in(text, names):
    """The place that a text writes."""
    table, bracket, inner = text.partition("[")
    sums = inner.removesuffix("]").split(", ")
    if not is_name(table) or len(sums) > MOST_SUMS:
        raise NoText("no name for a table, or more than two sums")
    return table, tuple([sum_in(total, names) for total in sums])


def sum_in(text, names):
    """The sum over names that a text writes."""
    weights = {name: 0 for name in names}
    number = 0
    for part in signed_parts(text):
        figures = part.rstrip(LETTERS)
        name = part[len(figures):]
        if name == "":
            number += number_in(figures)
        elif name in weights:
            weights[name] += weight_in(figures)
        else:
            raise NoText("a sum with a name that is none of its loops")
    return tuple([weights[name] for name in names] + [number])


def signed_parts(text):
    """The parts of a sum's text, cut ahead of each + and -, the + left out."""
    parts = []
    for sign in text:
        if sign in "+-" or not parts:
            parts.append(sign)
        else:
            parts[-1] += sign
    return [part.removeprefix("+") for part in parts]


def weight_in(figures):
    """The weight that the figures ahead of a name write, where 1 is left out."""
    if figures == "":
        return 1
    if figures == "-":
        return -1
    return number_in(figures)
