"""Papers of times: (bottom, rows), which show that no tree within a gap has less wire."""

from evenwires.joinings import ahead
from evenwires.lowest import lowest
from evenwires.streets import steps
from evenwires.wholes import are_wholes, is_whole


def times_shown(ends, joining, gap, thing):
    """The wire (top, bottom), in steps, that the thing, anything, shows; None if it is no paper."""
    if not has_form(len(ends), gap, thing):
        return None
    bottom, rows = thing
    if any(borne > bottom for borne in all_borne(len(ends), joining, rows)):
        return None
    over, tops = lowest(bottom, (sum([worth_of(ends, gap, row) for row in rows]),))
    return tops[0], over


def has_form(many, gap, thing):
    """Whether the thing, anything, has the parts of a paper of so many ends by the gap."""
    if not isinstance(thing, tuple) or len(thing) != 2:
        return False
    bottom, rows = thing
    if not is_whole(bottom) or bottom < 1 or not isinstance(rows, tuple):
        return False
    return all(is_row(many, gap, part) for part in rows)


def is_row(many, gap, thing):
    """Whether the thing, anything, is a row of such a paper."""
    if not isinstance(thing, tuple) or not are_wholes(thing[1:], 3):
        return False
    word, one, other, times = thing
    if not 0 <= one < many or not 0 <= other < many or times < 1:
        return False
    if word == "far":
        return one < other
    return word == "gap" and gap is not None and one != other


def all_borne(many, joining, rows):
    """What each wire bears of all rows together."""
    found = [0] * (2 * many - 2)
    for row in rows:
        for knot, times in borne_by(many, joining, row):
            found[knot] += times
    return found


def borne_by(many, joining, row):
    """The wires that bear the row, each with how often it does: pairs (knot, times)."""
    word, one, other, times = row
    # The gap lets one reach so much further than other: its own wire works against the row.
    mine = times if word == "far" else -times
    return [(knot, mine) for knot in ahead(many, joining, one, other)] + [
        (knot, times) for knot in ahead(many, joining, other, one)]


def worth_of(ends, gap, row):
    """What the row adds to the top, in steps."""
    word, one, other, times = row
    if word == "far":
        return times * steps(ends[one][:2], ends[other][:2])
    return -times * (gap + ends[other][2] - ends[one][2])
