"""Choices of ends, as rising tuples, and the ways to part them."""


def choices(many):
    """All choices of two ends or more of so many, as tuples rise."""
    found = [()]
    for end in range(many):
        found = found + [some + (end,) for some in found]
    return sorted([some for some in found if len(some) > 1])


def partings(some):
    """All ways to part some ends in two, each once: with the first end in the first part."""
    found = [(some[:1], ())]
    for end in some[1:]:
        found = [(one + (end,), other) for one, other in found] + [(one, other + (end,)) for one, other in found]
    return [(one, other) for one, other in found if other != ()]
