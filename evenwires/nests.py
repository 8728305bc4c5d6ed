"""Nests: an end's number, or a pair of nests. How ends are joined, before the joints have numbers."""


def joining_of(many, nest):
    """The joining of a nest of so many ends: the rows of its first part, those of its second, then its own."""
    rows = []
    tie(many, nest, rows)
    return tuple(rows)


def tie(many, nest, rows):
    """The number of the nest's knot; the rows that it takes are put behind those that are there."""
    if isinstance(nest, int):
        return nest
    first = tie(many, nest[0], rows)
    second = tie(many, nest[1], rows)
    rows.append((first, second))
    return many + len(rows) - 1
