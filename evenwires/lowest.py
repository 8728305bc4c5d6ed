"""Numbers over a bottom, in lowest terms."""


def lowest(bottom, numbers):
    """The bottom, from 1 on, and the numbers over it, divided by all that they have in common."""
    factor = bottom
    for number in numbers:
        factor = common_factor(factor, number)
    return bottom // factor, tuple([number // factor for number in numbers])


def common_factor(one, other):
    """The greatest number by which both can be divided."""
    while other != 0:
        one, other = other, one % other
    return abs(one)
