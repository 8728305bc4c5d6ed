"""Trees: (grain, spots, lengths), their wire, how far they reach, their detours."""

from evenwires.boxes import far, spot_of
from evenwires.joinings import chain, joints_above
from evenwires.wholes import are_wholes, is_whole


def tree_holds(ends, joining, gap, thing):
    """Whether the thing, anything, is a tree of the ends and the joining within the gap."""
    many = len(ends)
    if not has_form(many, thing):
        return False
    grain, spots, lengths = thing
    if spots[:many] != end_spots(ends, grain):
        return False
    if any(detour < 0 for detour in detours(joining, thing)):
        return False
    return gap is None or gap_of(ends, joining, grain, lengths) <= gap * grain


def has_form(many, thing):
    """Whether the thing, anything, has the parts of a tree of so many ends."""
    if not isinstance(thing, tuple) or len(thing) != 3:
        return False
    grain, spots, lengths = thing
    # A length below 0 is left to the detours: it is less than any way.
    return is_whole(grain) and grain >= 1 and are_spots(spots, 2 * many - 1) and are_wholes(lengths, 2 * many - 2)


def are_spots(thing, many):
    """Whether the thing, anything, is a tuple of so many spots."""
    if not isinstance(thing, tuple) or len(thing) != many:
        return False
    return all(are_wholes(part, 2) for part in thing)


def end_spots(ends, grain):
    """The spots of the ends at the grain."""
    return tuple([spot_of(grain, x, y) for x, y, start, load in ends])


def wire_of(lengths):
    """All lengths together."""
    return sum(lengths)


def reaches(ends, joining, grain, lengths):
    """The reach of each end."""
    return tuple([reach_of(ends, joining, grain, lengths, end) for end in range(len(ends))])


def reach_of(ends, joining, grain, lengths, end):
    """The end's start, in grains, and the wire from it up to the root."""
    wired = chain(len(ends), joining, end)[:-1]
    return grain * ends[end][2] + sum([lengths[knot] for knot in wired])


def gap_of(ends, joining, grain, lengths):
    """The greatest reach less the least."""
    found = reaches(ends, joining, grain, lengths)
    return max(found) - min(found)


def detours(joining, tree):
    """How much each wire is longer than its way, for each knot but the root."""
    grain, spots, lengths = tree
    return tuple([
        lengths[knot] - far(spots[knot], spots[joint]) for knot, joint in enumerate(joints_above(joining))])
