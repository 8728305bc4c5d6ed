"""Whole numbers, and tuples of them, told from anything else."""


def is_whole(thing):
    """Whether the thing is a whole number."""
    # True and False are ints to Python, but no numbers here.
    return isinstance(thing, int) and not isinstance(thing, bool)


def are_wholes(thing, many):
    """Whether the thing is a tuple of so many whole numbers."""
    if not isinstance(thing, tuple) or len(thing) != many:
        return False
    return all(is_whole(part) for part in thing)
