"""Loads: what hangs beneath each knot, and what lengths bear of it."""


def loads_of(ends, joining):
    """The load of each knot, in order."""
    loads = [load for x, y, start, load in ends]
    for one, other in joining:
        loads.append(loads[one] + loads[other])
    return tuple(loads)


def borne(ends, joining, lengths):
    """Each length times the load of its knot, together."""
    # The root has a load and no length, so its load falls off the end.
    return sum([length * load for length, load in zip(lengths, loads_of(ends, joining))])
