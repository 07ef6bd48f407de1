"""Where the weights of a sum alone rule out the worth 0."""


def misses(total):
    """True where the weights rule out that the sum's worth is ever 0, else False."""
    *weights, number = total
    divisor = shared_by_all(weights)
    if divisor == 0:
        return number != 0
    # Every number that divides each weight divides the greatest one too, so that one decides for all.
    return number % divisor != 0


def shared_by_all(weights):
    """The greatest number that divides each weight; 0 where all are 0 or there is none."""
    divisor = 0
    for weight in weights:
        divisor = shared_by_two(divisor, abs(weight))
    return divisor


def shared_by_two(one, other):
    """The greatest number that divides both numbers, neither below 0; 0 where both are 0."""
    while other != 0:
        one, other = other, one % other
    return one
