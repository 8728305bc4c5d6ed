"""Ends with a joining, and trees, written as texts and read back."""

from evenwires.ends import is_ends, is_joining
from evenwires.errors import NoText

FIGURES = "0123456789"
MOST_FIGURES = 30
MOST_ENDS = 24
MOST_KNOTS = 47


def show_wires(ends, joining):
    """The text of ends and their joining."""
    lines = [f"wires {len(ends)}"]
    lines += [f"end {x} {y} {start} {load}" for x, y, start, load in ends]
    lines += [f"join {one} {other}" for one, other in joining]
    return "\n".join(lines)


def show_tree(tree):
    """The text of a tree."""
    grain, spots, lengths = tree
    lines = [f"tree {grain}"]
    lines += [f"{spot[0]} {spot[1]} {length}" for spot, length in zip(spots, lengths)]
    root = spots[-1]
    lines.append(f"{root[0]} {root[1]}")
    return "\n".join(lines)


def read_wires(thing):
    """The pair (ends, joining) that the thing, anything, is the text of."""
    lines = lines_of(thing)
    many = numbers_behind("wires ", lines[0], 1)[0]
    if not 1 <= many <= MOST_ENDS or len(lines) != 2 * many:
        raise NoText("not 1 to 24 ends, or another number of lines than they have")
    ends = tuple([numbers_behind("end ", line, 4) for line in lines[1:many + 1]])
    joining = tuple([numbers_behind("join ", line, 2) for line in lines[many + 1:]])
    if not is_ends(ends) or not is_joining(many, joining):
        raise NoText("no ends, or no joining of them")
    return ends, joining


def read_tree(thing):
    """The tree (grain, spots, lengths) that the thing, anything, is the text of."""
    lines = lines_of(thing)
    grain = numbers_behind("tree ", lines[0], 1)[0]
    knots = len(lines) - 1
    if grain < 1 or knots > MOST_KNOTS or knots % 2 == 0:
        raise NoText("no grain, or a number of knots that no tree has")
    wired = [numbers_of(line, 3) for line in lines[1:knots]]
    root = numbers_of(lines[knots], 2)
    spots = tuple([row[:2] for row in wired] + [root])
    lengths = tuple([row[2] for row in wired])
    if any(length < 0 for length in lengths):
        raise NoText("a length below 0")
    return grain, spots, lengths


def lines_of(thing):
    """The lines of a text; of anything else a refusal."""
    if not isinstance(thing, str):
        raise NoText("no text at all")
    return thing.split("\n")


def numbers_behind(head, line, many):
    """So many numbers, which the line has behind its head."""
    if not line.startswith(head):
        raise NoText("another word than is due")
    return numbers_of(line.removeprefix(head), many)


def numbers_of(line, many):
    """So many numbers, of which the line is made."""
    words = line.split(" ")
    if len(words) != many or not all(is_number(word) for word in words):
        raise NoText("not the numbers that are due")
    return tuple([int(word) for word in words])


def is_number(word):
    """Whether the word writes a number."""
    figures = word.removeprefix("-")
    # Not left to int, which reads much that is not so written.
    if not 1 <= len(figures) <= MOST_FIGURES or not all(figure in FIGURES for figure in figures):
        return False
    return figures[0] != "0" or word == "0"
