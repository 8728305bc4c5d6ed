"""A desk: a grove that is spoken to in rows of words, and answers in texts."""

from evenwires.best import best_joining
from evenwires.errors import NoRow, TooMany
from evenwires.even import even_tree, even_wire
from evenwires.free import free_wire
from evenwires.groves import Grove
from evenwires.layers import layers_for, layers_shown
from evenwires.least import least
from evenwires.texts import show_tree, show_wires
from evenwires.times import times_shown
from evenwires.words import above_of, coming_of, gap_of, name_of, words_of


def text_told(ends, joining):
    """The text of the ends and the joining."""
    return show_wires(ends, joining)


def tree_told(ends, joining):
    """The text of the even tree."""
    return show_tree(even_tree(ends, joining))


def wire_told(ends, joining):
    """The least even wire of the joining."""
    return str(even_wire(ends, joining))


def free_told(ends, joining):
    """The free wire of the joining."""
    return str(free_wire(ends, joining))


def bound_told(ends, joining):
    """What the layers of the ends show."""
    return str(layers_shown(ends, layers_for(ends)))


def best_told(ends, joining):
    """The least even wire of all joinings of the ends."""
    found, table = best_joining(ends)
    return str(even_wire(ends, found))


def least_told(ends, joining, gap):
    """The least wire within the gap, in lowest terms."""
    tree, paper = least(ends, joining, gap)
    # Told with the tree is a paper that shows just its wire, and shown is a fraction in lowest terms.
    top, bottom = times_shown(ends, joining, gap, paper)
    return str(top) if bottom == 1 else f"{top}/{bottom}"


def height_told(grove, name, above):
    """The height of a knot."""
    return str(grove.row(name, above)[0])


def row_told(grove, name, above):
    """The four numbers of a knot's box."""
    return " ".join([str(number) for number in grove.row(name, above)[1]])


def load_told(grove, name, above):
    """The load of a knot."""
    return str(grove.load(name, above))


OF_WHOLE = {
    "text": text_told, "tree": tree_told, "wire": wire_told, "free": free_told, "bound": bound_told, "best": best_told}
OF_KNOT = {"height": height_told, "row": row_told, "load": load_told}


class Desk:
    """A grove that is spoken to in rows of words."""

    def __init__(self):
        self.grove = Grove()

    def say(self, text):
        """What is answered to a row of words; refused where it is none, or where the grove refuses it."""
        words = words_of(text)
        head = words[0]
        if head == "come":
            return self.let_come(words)
        if head == "go" and len(words) == 2:
            return self.let_go(words)
        if head in OF_KNOT and len(words) == 3:
            return self.tell_knot(words)
        if head in OF_WHOLE and len(words) == 1:
            return self.tell_whole(words)
        if head == "least" and len(words) == 2:
            return self.tell_least(words)
        raise NoRow("no row that is known here")

    def let_come(self, words):
        """An end comes."""
        name, x, y, start, load, beside, above = coming_of(words)
        self.grove.come(name, x, y, start, load, beside, above)
        return "ok"

    def let_go(self, words):
        """An end goes."""
        self.grove.go(name_of(words[1]))
        return "ok"

    def tell_knot(self, words):
        """What is asked of a knot."""
        name = name_of(words[1])
        above = above_of(words[2])
        if self.grove.names() == ():
            return "none"
        told = OF_KNOT[words[0]]
        return told(self.grove, name, above)

    def tell_whole(self, words):
        """What is asked of all ends and their joining."""
        ends, joining = self.grove.now()
        if ends == ():
            return "none"
        told = OF_WHOLE[words[0]]
        try:
            return told(ends, joining)
        except TooMany:
            return "too many"

    def tell_least(self, words):
        """The least wire within a gap."""
        gap = gap_of(words[1])
        ends, joining = self.grove.now()
        if ends == ():
            return "none"
        try:
            return least_told(ends, joining, gap)
        except TooMany:
            return "too many"
