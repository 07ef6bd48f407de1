"""Programs written as texts."""

from loopturn.words import number_text


def shown(program):
    """A program as a text."""
    lines = []
    for piece in program:
        lines.extend(piece_lines(piece))
    return "\n".join(lines)


def piece_lines(piece):
    """The lines of a piece: its loops, its rows, and the end."""
    loops, rows = piece
    names = [loop[0] for loop in loops]
    lines = [loop_line(loop, names[:at]) for at, loop in enumerate(loops)]
    lines.extend([row_line(row, names) for row in rows])
    lines.append("end")
    return lines


def loop_line(loop, names):
    """The line of a loop, with the names of the loops outside it."""
    name, lows, highs = loop
    return "loop " + name + " from " + ends_text(lows, names) + " to " + ends_text(highs, names)


def ends_text(ends, names):
    """Ends, parted by a comma and a blank."""
    return ", ".join([end_text(end, names) for end in ends])


def end_text(end, names):
    """An end as it is, not brought to lower terms."""
    by, total = end
    if by == 1:
        return sum_text(total, names)
    return sum_text(total, names) + "/" + number_text(by)


def row_line(row, names):
    """The line of a row."""
    place, (total, terms) = row
    line = place_text(place, names) + " = " + sum_text(total, names)
    for weight, places in terms:
        factors = [number_text(weight)] + [place_text(factor, names) for factor in places]
        line += " + " + "*".join(factors)
    return line


def place_text(place, names):
    """A place, its sums parted by a comma and a blank."""
    table, sums = place
    return table + "[" + ", ".join([sum_text(total, names) for total in sums]) + "]"


def sum_text(total, names):
    """A sum over names, without blanks."""
    *weights, number = total
    parts = [weight_text(weight, name) for weight, name in zip(weights, names) if weight != 0]
    if number != 0 or not parts:
        parts.append(number_text(number))
    # A part below 0 brings its own sign along; the first part has no + ahead.
    signed = [part if part.startswith("-") else "+" + part for part in parts[1:]]
    return parts[0] + "".join(signed)


def weight_text(weight, name):
    """A weight that is not 0, and its name."""
    if weight == 1:
        return name
    if weight == -1:
        return "-" + name
    return number_text(weight) + name
