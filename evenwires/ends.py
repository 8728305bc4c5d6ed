"""What ends are, and what a joining of them is."""

from evenwires.wholes import are_wholes


def is_ends(thing):
    """Whether the thing, anything, is ends."""
    if not isinstance(thing, tuple) or len(thing) == 0:
        return False
    return all(is_end(part) for part in thing)


def is_end(thing):
    """Whether the thing, anything, is one end: (x, y, start, load)."""
    return are_wholes(thing, 4) and thing[2] >= 0 and thing[3] >= 0


def is_joining(many, thing):
    """Whether the thing, anything, is a joining of so many ends."""
    if not isinstance(thing, tuple) or len(thing) != many - 1:
        return False
    # That each knot but the root stands in a row need not be asked: so many
    # rows have room for just as many knots, if none of them stands twice.
    used = set()
    for joint, row in enumerate(thing, start=many):
        if not joins_below(joint, row):
            return False
        one, other = row
        if one in used or other in used:
            return False
        used.add(one)
        used.add(other)
    return True


def joins_below(joint, thing):
    """Whether the thing, anything, is a pair of unlike knots below the joint."""
    if not are_wholes(thing, 2):
        return False
    one, other = thing
    return one != other and 0 <= one < joint and 0 <= other < joint
