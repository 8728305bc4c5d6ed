"""Places, and how far it is between them on the streets."""


def steps(one, other):
    """How many steps two places are apart."""
    return abs(one[0] - other[0]) + abs(one[1] - other[1])
