"""What texts and their reader share: names, and how numbers are written and read."""

from loopturn.errors import NoText

WORDS = ("loop", "from", "to", "end")
LETTERS = "abcdefghijklmnopqrstuvwxyz"
FIGURES = "0123456789"
MOST_LETTERS = 8
MOST_FIGURES = 60


def is_name(text):
    """True where a text is a name, else False."""
    if text in WORDS or not 1 <= len(text) <= MOST_LETTERS:
        return False
    return all(sign in LETTERS for sign in text)


def number_text(number):
    """A whole number as it is written."""
    return str(number)


def number_in(text):
    """The whole number that a text writes, or NoText where it writes none, or one of more than sixty figures."""
    figures = text.removeprefix("-")
    # The signs are looked at one by one, since int takes blanks, underlines and other scripts' figures as well.
    if not 1 <= len(figures) <= MOST_FIGURES or not all(sign in FIGURES for sign in figures):
        raise NoText("no number of at most sixty figures")
    number = int(text)
    if number_text(number) != text:
        raise NoText("a number with noughts ahead, or -0")
    return number
