"""The least wire of few ends within a gap, as a tree and as a paper of times."""

from evenwires.errors import TooMany
from evenwires.fitting import laid
from evenwires.lowest import lowest
from evenwires.pivots import most_worth
from evenwires.times import all_borne, worth_of

MOST_ENDS = 5


def least(ends, joining, gap):
    """(tree, paper): a tree within the gap, and a paper that shows that none has less wire."""
    many = len(ends)
    if many > MOST_ENDS:
        raise TooMany("the least wire within a gap is told of at most five ends")
    rows = rows_once(many, gap)
    columns = [all_borne(many, joining, (row,)) for row in rows]
    worths = [worth_of(ends, gap, row) for row in rows]
    # The bounds of a paper are the wires', so what each bound is worth, where the
    # most is shown, is a length; and these lengths are enough for every row.
    bottom, times, prices = most_worth(columns, worths, 2 * many - 2)
    grain, lengths = lowest(bottom, prices)
    return laid(ends, joining, grain, lengths), paper_of(rows, bottom, times)


def rows_once(many, gap):
    """Every row that a paper may have, once."""
    rows = [("far", one, other, 1) for other in range(many) for one in range(other)]
    if gap is not None:
        rows += [("gap", one, other, 1) for one in range(many) for other in range(many) if one != other]
    return rows


def paper_of(rows, bottom, times):
    """The paper of these rows, so often each, in lowest terms."""
    over, often = lowest(bottom, times)
    return over, tuple([row[:3] + (many,) for row, many in zip(rows, often) if many > 0])
