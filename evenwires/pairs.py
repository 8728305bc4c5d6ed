"""Papers of pairs: for each joint two ends that want its height. All in half steps."""

from evenwires.joinings import beneath
from evenwires.rows import rows_of, started, wanted
from evenwires.wholes import are_wholes


def pairs_for(ends, joining):
    """The paper that shows the least even wire, of each joint's first pairs."""
    many = len(ends)
    heights = [height for height, box in rows_of(ends, joining)]
    return tuple([
        first_pair(ends, beneath(many, joining, joint), heights[joint]) for joint in range(many, len(heights))])


def first_pair(ends, some, height):
    """The first pair of these ends that wants the height."""
    # Exchanged, a pair wants as much, so the first one has the lesser end first.
    return min([(one, other) for one in some for other in some if wanted(ends, one, other) == height])


def pairs_shown(ends, joining, thing):
    """The wire that the thing, anything, shows no even tree to have less than, or None if it is no paper."""
    if not is_paper(len(ends), joining, thing):
        return None
    # Of one end there is no pair that would make up for its start.
    if len(ends) == 1:
        return 0
    wants = [wanted(ends, one, other) for one, other in thing]
    return sum(wants) + wants[-1] - started(ends)


def is_paper(many, joining, thing):
    """Whether the thing, anything, is a paper of pairs."""
    if not isinstance(thing, tuple) or len(thing) != len(joining):
        return False
    return all(is_pair(beneath(many, joining, joint), part) for joint, part in enumerate(thing, start=many))


def is_pair(some, thing):
    """Whether the thing, anything, is a pair of these ends, the first not above the second."""
    if not are_wholes(thing, 2):
        return False
    one, other = thing
    return one <= other and one in some and other in some
