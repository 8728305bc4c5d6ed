"""Tables: for each choice of ends a number, which show that no even tree of any joining has less wire."""

from evenwires.choices import choices, partings
from evenwires.rows import height_of, started
from evenwires.wholes import are_wholes, is_whole

MOST_ENDS = 7


def table_shown(ends, thing):
    """The wire, in half steps, that the thing, anything, shows; None if it is no table that holds."""
    many = len(ends)
    if many > MOST_ENDS or not has_form(many, thing):
        return None
    numbers = numbers_of(many, thing)
    if any(number > most_of(ends, numbers, some) for some, number in thing):
        return None
    # One end alone has the number 0 and its own height: it shows 0.
    every = tuple(range(many))
    return numbers[every] + height_of(ends, every) - started(ends)


def has_form(many, thing):
    """Whether the thing, anything, has a row for each choice of so many ends, in order."""
    due = choices(many)
    if not isinstance(thing, tuple) or len(thing) != len(due):
        return False
    return all(is_row(some, part) for some, part in zip(due, thing))


def is_row(some, thing):
    """Whether the thing, anything, is a row of just these ends."""
    if not isinstance(thing, tuple) or len(thing) != 2:
        return False
    chosen, number = thing
    # A truth equals its number, so that to be alike is not enough.
    return are_wholes(chosen, len(some)) and chosen == some and is_whole(number) and number >= 0


def numbers_of(many, table):
    """The number of each choice, and of each end alone."""
    numbers = {(end,): 0 for end in range(many)}
    for some, number in table:
        numbers[some] = number
    return numbers


def most_of(ends, numbers, some):
    """The most that the number of these ends may be."""
    return height_of(ends, some) + min([numbers[one] + numbers[other] for one, other in partings(some)])
