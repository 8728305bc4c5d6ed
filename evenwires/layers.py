"""Papers of layers: rows (low, high, some), which show that no even tree of any joining has less wire."""

from evenwires.rows import GRAIN, wanted
from evenwires.wholes import are_wholes, is_whole


def layers_for(ends):
    """The paper of ends that are chosen one by one, each as far off as may be."""
    if len(ends) == 1:
        return ()
    chosen, wants = chosen_ends(ends)
    # The layer of all ends goes down to the ground.
    wants.append(0)
    rows = []
    for many in reversed(range(2, len(ends) + 1)):
        low = max(wants[many - 1], highest_start(ends, chosen[:many]))
        high = wants[many - 2]
        if low < high:
            rows.append((low, high, tuple(sorted(chosen[:many]))))
    return tuple(rows)


def chosen_ends(ends):
    """All ends as they are chosen, and what each choice from the second on wants."""
    one, other = first_two(ends)
    chosen = [one, other]
    wants = [wanted(ends, one, other)]
    while len(chosen) < len(ends):
        end = furthest(ends, chosen)
        wants.append(nearest_want(ends, chosen, end))
        chosen.append(end)
    return chosen, wants


def first_two(ends):
    """The first two ends that want the most."""
    many = len(ends)
    pairs = [(one, other) for one in range(many) for other in range(one + 1, many)]
    # Of several, max tells the first: here and below the ends stand in order.
    return max(pairs, key=lambda pair: wanted(ends, pair[0], pair[1]))


def furthest(ends, chosen):
    """The first end not chosen of those that even with the nearest chosen one want the most."""
    left = [end for end in range(len(ends)) if end not in chosen]
    return max(left, key=lambda end: nearest_want(ends, chosen, end))


def nearest_want(ends, chosen, end):
    """The least that the end and a chosen one want."""
    return min([wanted(ends, end, other) for other in chosen])


def highest_start(ends, some):
    """The greatest start of some ends, in half steps."""
    return GRAIN * max([ends[end][2] for end in some])


def layers_shown(ends, thing):
    """The wire, in half steps, that the thing, anything, shows; None if it is no paper."""
    if not isinstance(thing, tuple) or not all(is_row(ends, part) for part in thing):
        return None
    if any(row[0] < before[1] for before, row in zip(thing, thing[1:])):
        return None
    return sum([(high - low) * len(some) for low, high, some in thing])


def is_row(ends, thing):
    """Whether the thing, anything, is a row of such a paper."""
    if not isinstance(thing, tuple) or len(thing) != 3:
        return False
    low, high, some = thing
    if not is_whole(low) or not is_whole(high) or not 0 <= low < high or not is_rising(len(ends), some):
        return False
    if highest_start(ends, some) > low:
        return False
    return all(wanted(ends, one, other) >= high for one in some for other in some if one < other)


def is_rising(many, thing):
    """Whether the thing, anything, is a rising tuple of two or more of so many ends."""
    if not isinstance(thing, tuple) or len(thing) < 2 or not are_wholes(thing, len(thing)):
        return False
    if thing[0] < 0 or thing[-1] >= many:
        return False
    return all(one < other for one, other in zip(thing, thing[1:]))
