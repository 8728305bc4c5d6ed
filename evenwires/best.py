"""The best joining of few ends, and the table that shows that none is better."""

from evenwires.choices import choices, partings
from evenwires.errors import TooMany
from evenwires.nests import joining_of
from evenwires.rows import height_of
from evenwires.tables import MOST_ENDS


def best_joining(ends):
    """(joining, table): a joining with the least even wire of all, and a table that shows it."""
    many = len(ends)
    if many > MOST_ENDS:
        raise TooMany("the best joining is told of at most seven ends")
    numbers = {(end,): 0 for end in range(many)}
    nests = {(end,): end for end in range(many)}
    # Parts have fewer ends than the whole, so they have their numbers before it.
    for some in sorted(choices(many), key=len):
        number, one, other = min([(numbers[one] + numbers[other], one, other) for one, other in partings(some)])
        numbers[some] = height_of(ends, some) + number
        nests[some] = (nests[one], nests[other])
    table = tuple([(some, numbers[some]) for some in choices(many)])
    return joining_of(many, nests[tuple(range(many))]), table
