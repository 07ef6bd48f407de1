"""The first two turns that meet at one cell, told with a paper."""

from loopturn.errors import TooMany
from loopturn.papers import Question, boxes_laid, first_box, part_holds
from loopturn.rows import places_read

MOST_PARTS = 600


def touch(one, place, other, spot):
    """A tuple of the first pair of turns that meet, or None, and a paper that holds for it; or TooMany."""
    question = Question(one, place, other, spot, None)
    waiting = [first_box(one, other)]
    paper = []
    while waiting:
        # Each box that waits takes a part at least. A box of 300 points never needs more than 599: as many leaves
        # as points, and a split fewer.
        if len(paper) + len(waiting) > MOST_PARTS:
            raise TooMany("the search needs more than 600 parts")
        box = waiting.pop()
        part = part_against(question, box) or part_into(box)
        paper.append(part)
        if part == ("found",):
            # The first name that isn't fixed was split each time, so all that still waits comes behind.
            return pair_in(box, len(one)), paper + [("later",)] * len(waiting)
        waiting.extend(boxes_laid(box, part))
    return None, paper


def part_against(question, box):
    """A part by which no two turns in the box meet, or None."""
    parts = [("none", k) for k in range(len(box))]
    parts.append(("unlike",))
    parts.extend([("rest", e) for e in range(len(question.equations))])
    parts.extend([("bound", k) for k in range(len(question.equations) + len(question.conditions))])
    for part in parts:
        if part_holds(question, box, part):
            return part
    return None


def part_into(box):
    """A part that splits the first name that isn't fixed in its middle, or tells that the box is the pair."""
    for k, (low, high) in enumerate(box):
        if low < high:
            return "split", k, (low + high) // 2
    # All are fixed, and neither an end nor a cell speaks against it.
    return ("found",)


def pair_in(box, names):
    """The pair of turns of a box that is one point; so many names are those of the first."""
    values = tuple([low for low, high in box])
    return values[:names], values[names:]


def meeting(program, here, there):
    """The first pair of turns at which two rows touch, or None; or TooMany."""
    loops, row = loops_and_row(program, here)
    other_loops, other_row = loops_and_row(program, there)
    pairs = []
    for place, spot in places_to_meet(row, other_row):
        pair, paper = touch(loops, place, other_loops, spot)
        if pair is not None:
            pairs.append(pair)
    return min(pairs, default=None)


def loops_and_row(program, numbers):
    """The row of the numbers (piece, row), and the loops that it stands in."""
    piece, at = numbers
    loops, rows = program[piece]
    return loops, rows[at]


def places_to_meet(row, other):
    """A list of pairs, a place of the row and one of the other, one of which at least is written."""
    pairs = [(row[0], other[0])]
    pairs.extend([(row[0], spot) for spot in places_read(other)])
    pairs.extend([(place, other[0]) for place in places_read(row)])
    return pairs
