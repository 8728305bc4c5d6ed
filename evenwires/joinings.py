"""Chains of a joining's knots, what is beneath them, where they meet."""


def chain(many, joining, knot):
    """The knot, the joint in whose row it stands, and so on up to the root."""
    knots = [knot]
    # A joint stands only in rows behind its own, so one way through finds all.
    for joint, row in enumerate(joining, start=many):
        if knots[-1] in row:
            knots.append(joint)
    return tuple(knots)


def beneath(many, joining, knot):
    """The ends beneath the knot, rising."""
    return tuple([end for end in range(many) if knot in chain(many, joining, end)])


def meeting(many, joining, one, other):
    """The first knot that stands in the chains of both ends."""
    others = chain(many, joining, other)
    # Along a chain the numbers rise, so the first that is in both is the least.
    return min([knot for knot in chain(many, joining, one) if knot in others])


def joints_above(joining):
    """For each knot but the root the joint in whose row it stands."""
    many = len(joining) + 1
    found = [0] * (2 * len(joining))
    for joint, row in enumerate(joining, start=many):
        for knot in row:
            found[knot] = joint
    return tuple(found)


def ahead(many, joining, one, other):
    """The knots of one's chain ahead of where it meets other's: the wire on its side between both ends."""
    others = chain(many, joining, other)
    return tuple([knot for knot in chain(many, joining, one) if knot not in others])
