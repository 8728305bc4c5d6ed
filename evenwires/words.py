"""The words of a desk's rows, each read to what it tells or refused."""

from evenwires.errors import NoRow
from evenwires.texts import is_number

LETTERS = "abcdefghijklmnopqrstuvwxyz"
MOST_LETTERS = 8
MOST_STEPS = 10 ** 6
MOST_GAP = 10 ** 7
MOST_ABOVE = 99


def words_of(thing):
    """The words of a row; of what is no text a refusal."""
    if not isinstance(thing, str):
        raise NoRow("no text at all")
    return thing.split(" ")


def name_of(word):
    """The name that the word is."""
    if not 1 <= len(word) <= MOST_LETTERS or not all(letter in LETTERS for letter in word):
        raise NoRow("no name")
    return word


def number_of(word, least, greatest):
    """The number from the least to the greatest that the word writes."""
    if not is_number(word) or not least <= int(word) <= greatest:
        raise NoRow("no number, or one out of its bounds")
    return int(word)


def place_of(word):
    """An x or a y."""
    return number_of(word, -MOST_STEPS, MOST_STEPS)


def amount_of(word):
    """A start or a load."""
    return number_of(word, 0, MOST_STEPS)


def above_of(word):
    """How many joints above an end."""
    return number_of(word, 0, MOST_ABOVE)


def gap_of(word):
    """A gap, or None where any is let."""
    if word == "any":
        return None
    return number_of(word, 0, MOST_GAP)


def coming_of(words):
    """What a row of a coming tells: (name, x, y, start, load, beside, above)."""
    if len(words) == 6:
        beside, above = None, 0
    elif len(words) == 8:
        beside, above = name_of(words[6]), above_of(words[7])
    else:
        raise NoRow("another number of words than a coming has")
    name = name_of(words[1])
    return name, place_of(words[2]), place_of(words[3]), amount_of(words[4]), amount_of(words[5]), beside, above
