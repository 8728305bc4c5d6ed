"""The refusals, each of its own kind, all of them WireErrors."""


class WireError(ValueError):
    """What is refused, of whatever kind."""


class NoText(WireError):
    """No text of ends and a joining, or of a tree."""


class NoPlace(WireError):
    """A spot outside its box, or a knot that a chain does not have."""


class NoEnd(WireError):
    """An end that is not there."""


class Twice(WireError):
    """A name that is there already."""


class Full(WireError):
    """No room for one more end."""


class TooMany(WireError):
    """More ends than are gone through."""


class NoRow(WireError):
    """No row that a desk knows."""


class NoFit(WireError):
    """Lengths with less wire between two ends than these are apart."""

    def __init__(self, one, other):
        super().__init__(f"too little wire between the ends {one} and {other}")
        self.one = one
        self.other = other
