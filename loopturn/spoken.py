"""Texts read as turnings."""

from loopturn.errors import NoText
from loopturn.joins import Join, Part
from loopturn.turnings import Back, Shift, Slant, Strips, Swap
from loopturn.words import is_name, number_in


def numbers_in(parts, many):
    """The whole numbers that so many parts write, or NoText."""
    if len(parts) != many:
        raise NoText("a part too many or too few")
    return [number_in(part) for part in parts]


def swap_in(parts):
    """The turning that the parts behind swap write."""
    piece, at = numbers_in(parts, 2)
    return Swap(piece, at)


def back_in(parts):
    """The turning that the parts behind back write."""
    piece, at = numbers_in(parts, 2)
    return Back(piece, at)


def slant_in(parts):
    """The turning that the parts behind slant write."""
    piece, at, outer, far = numbers_in(parts, 4)
    return Slant(piece, at, outer, far)


def shift_in(parts):
    """The turning that the parts behind shift write."""
    piece, at, far = numbers_in(parts, 3)
    return Shift(piece, at, far)


def strips_in(parts):
    """The turning that the parts behind strips write: three numbers and a name."""
    piece, at, wide = numbers_in(parts[:-1], 3)
    if not is_name(parts[-1]):
        raise NoText("no name for the strips")
    return Strips(piece, at, wide, parts[-1])


def join_in(parts):
    """The turning that the parts behind join write."""
    numbers = numbers_in(parts, 1)
    return Join(numbers[0])


def part_in(parts):
    """The turning that the parts behind part write."""
    piece, row = numbers_in(parts, 2)
    return Part(piece, row)


READERS = {
    "swap": swap_in,
    "back": back_in,
    "slant": slant_in,
    "shift": shift_in,
    "strips": strips_in,
    "join": join_in,
    "part": part_in,
}


def read_turning(text):
    """The turning that a text writes, or NoText where it writes none, or is no text."""
    if not isinstance(text, str):
        raise NoText("no text")
    word, *parts = text.split(" ")
    if word not in READERS:
        raise NoText("no word of a turning")
    reader = READERS[word]
    return reader(parts)
