"""Rows: the cells that they write and read, and their numbers."""

from loopturn.sums import worth

# What tables hold are rests by this number.
REST_BY = 1000000007


def cell_of(place, turn):
    """The cell of a place at a turn."""
    table, sums = place
    return table, tuple(worth(total, turn) for total in sums)


def written_by(row, turn):
    """The cell that a row writes at a turn."""
    place = row[0]
    return cell_of(place, turn)


def read_by(row, turn):
    """A list of the cells that a row reads at a turn, as often as they come."""
    return [cell_of(place, turn) for place in places_read(row)]


def places_read(row):
    """A list of the places that a row reads, those of weight 0 too."""
    terms = row[1][1]
    return [place for weight, places in terms for place in places]


def touching(row, turn, other, there):
    """True where a cell that one row writes at its turn is written or read by the other at its own, else False."""
    here_written = written_by(row, turn)
    there_written = written_by(other, there)
    return (
        here_written == there_written
        or here_written in read_by(other, there)
        or there_written in read_by(row, turn)
    )


def number_of(row, turn, tables):
    """The number that a row puts into its cell at a turn, by the tables as they are."""
    total, terms = row[1]
    number = worth(total, turn)
    for weight, places in terms:
        number += weight * held_by(places, turn, tables)
    return number % REST_BY


def held_by(places, turn, tables):
    """What the cells of the places hold at a turn, multiplied."""
    held = 1
    for place in places:
        held *= tables.get(cell_of(place, turn), 0)
    return held
