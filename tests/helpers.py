"""What several tests need: right things, wrong parts, and asking twice."""

import copy

# Whatever stands in a whole number's place here makes a thing wrong.
NO_NUMBERS = (
    True, False, None,
    "", "0", "1", "-1", "a", " ", "\n", "ab", "0123",
    [], [0], [0, 1], [0, 0, 0, 0], [None],
    {}, {0: 0}, {0: 1, 1: 0}, {"a": []},
    (), (0,), (0, 1), (0, 0, 0, 0), ((0,),), (None, None),
)

# Whatever stands in a tuple's place here makes a thing wrong.
NO_TUPLES = (
    True, False, None,
    0, 1, -1, 10 ** 59,
    "", "0", "01", "ab", "0123", "end 0 0 0 0",
    [], [0, 1], [0, 0, 0, 0], [(0, 1)], [(0, 0, 0, 0)],
    {}, {0: 0, 1: 1}, {(0, 1): (0, 1)}, {(0, 0, 0, 0): 1},
)


def nested(deep, inner, kind):
    """The inner thing in so many lists or tuples."""
    for turn in range(deep):
        inner = kind([inner])
    return inner


# Things that are large or deep, as much as "of anything" lets.
GREAT_THINGS = (
    10 ** 60 - 1, -(10 ** 60 - 1),
    "a" * 4000, "\n" * 4000, " " * 4000, "0" * 4000,
    nested(19, 0, tuple), nested(19, 0, list), nested(19, (), tuple),
    tuple(range(7999)), list(range(7999)), {k: k for k in range(3999)},
    ((),) * 7999, ((0,),) * 3999,
)


def exchanged(whole, at, part):
    """The tuple with the part at this place exchanged."""
    return whole[:at] + (part,) + whole[at + 1:]


def ask(test, function, *arguments):
    """What is told; the same again, with all that was handed in unchanged."""
    kept = copy.deepcopy(arguments)
    before = repr(arguments)
    told = function(*arguments)
    # Numbers equal truths, so that only how they are shown parts them.
    test.assertEqual(repr(arguments), before, "what was handed in was changed")
    shown = repr(told)
    test.assertEqual(repr(function(*arguments)), shown, "asked again, something else was told")
    test.assertEqual(repr(function(*kept)), shown, "asked of the same, something else was told")
    test.assertEqual(repr(told), shown, "what was told was changed")
    return told


def tell(test, want, function, *arguments):
    """Just this is told, of just this kind."""
    test.assertEqual(repr(ask(test, function, *arguments)), repr(want), repr(arguments)[:300])


def refuse(test, refusal, function, *arguments):
    """The refusal; the same again, with all that was handed in unchanged."""
    before = repr(arguments)
    for turn in range(2):
        with test.assertRaises(refusal, msg=before[:200]):
            function(*arguments)
        test.assertEqual(repr(arguments), before, "what was handed in was changed")


def all_joinings(many):
    """Every joining of so many ends, by going through all that may be joined."""
    def further(free, rows):
        if len(free) == 1:
            return [tuple(rows)]
        joint = many + len(rows)
        found = []
        for one in free:
            for other in free:
                if one != other:
                    rest = [knot for knot in free if knot not in (one, other)]
                    found += further(rest + [joint], rows + [(one, other)])
        return found
    return further(list(range(many)), [])


def any_joining(chance, many):
    """Some joining of so many ends."""
    free = list(range(many))
    rows = []
    while len(free) > 1:
        one = free.pop(chance.randrange(len(free)))
        other = free.pop(chance.randrange(len(free)))
        free.append(many + len(rows))
        rows.append((one, other))
    return tuple(rows)


def chain_joining(many, flipped=False):
    """The ends joined one by one, each with all that are joined before it."""
    rows = []
    for end in range(1, many):
        below = 0 if end == 1 else many + end - 2
        rows.append((end, below) if flipped else (below, end))
    return tuple(rows)


def any_ends(chance, many, wide=10, starts=10):
    """Some ends, about nought."""
    return tuple(
        (chance.randint(-wide, wide), chance.randint(-wide, wide),
         chance.randint(0, starts), chance.randint(0, 9))
        for end in range(many))
