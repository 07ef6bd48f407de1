"""Whole numbers rounded by a divisor above 0."""


def down_by(top, by):
    """The greatest whole number that by times isn't above top."""
    return top // by


def up_by(top, by):
    """The least whole number that by times isn't below top."""
    # // rounds down, so the sign is turned ahead of it and behind it.
    return -(-top // by)
