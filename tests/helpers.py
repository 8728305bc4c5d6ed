"""What several tests need: right things, wrong parts, and asking twice."""

import copy
import fractions
import itertools

# Whatever stands in a whole number's place here makes a thing wrong.
NO_NUMBERS = (
    True, False, None,
    "", "0", "1", "-1", "a", " ", "\n", "ab", "0123",
    [], [0], [0, 1], [0, 0, 0, 0], [None],
    {}, {0: 0}, {0: 1, 1: 0}, {"a": []},
    (), (0,), (0, 1), (0, 0, 0, 0), ((0,),), (None, None),
)

# Whatever stands in a tuple's place here makes a thing wrong.
NO_TUPLES = (
    True, False, None,
    0, 1, -1, 10 ** 59,
    "", "0", "01", "ab", "0123", "end 0 0 0 0",
    [], [0, 1], [0, 0, 0, 0], [(0, 1)], [(0, 0, 0, 0)],
    {}, {0: 0, 1: 1}, {(0, 1): (0, 1)}, {(0, 0, 0, 0): 1},
)


def nested(deep, inner, kind):
    """The inner thing in so many lists or tuples."""
    for turn in range(deep):
        inner = kind([inner])
    return inner


# Things that are large or deep, as much as "of anything" lets.
GREAT_THINGS = (
    10 ** 60 - 1, -(10 ** 60 - 1),
    "a" * 4000, "\n" * 4000, " " * 4000, "0" * 4000,
    nested(19, 0, tuple), nested(19, 0, list), nested(19, (), tuple),
    tuple(range(7999)), list(range(7999)), {k: k for k in range(3999)},
    ((),) * 7999, ((0,),) * 3999,
)


def exchanged(whole, at, part):
    """The tuple with the part at this place exchanged."""
    return whole[:at] + (part,) + whole[at + 1:]


def ask(test, function, *arguments):
    """What is told; the same again, with all that was handed in unchanged."""
    kept = copy.deepcopy(arguments)
    before = repr(arguments)
    told = function(*arguments)
    # Numbers equal truths, so that only how they are shown parts them.
    test.assertEqual(repr(arguments), before, "what was handed in was changed")
    shown = repr(told)
    test.assertEqual(repr(function(*arguments)), shown, "asked again, something else was told")
    test.assertEqual(repr(function(*kept)), shown, "asked of the same, something else was told")
    test.assertEqual(repr(told), shown, "what was told was changed")
    return told


def tell(test, want, function, *arguments):
    """Just this is told, of just this kind."""
    test.assertEqual(repr(ask(test, function, *arguments)), repr(want), repr(arguments)[:300])


def refuse(test, refusal, function, *arguments):
    """The refusal; the same again, with all that was handed in unchanged."""
    before = repr(arguments)
    for turn in range(2):
        with test.assertRaises(refusal, msg=before[:200]):
            function(*arguments)
        test.assertEqual(repr(arguments), before, "what was handed in was changed")


def all_joinings(many):
    """Every joining of so many ends, by going through all that may be joined."""
    def further(free, rows):
        if len(free) == 1:
            return [tuple(rows)]
        joint = many + len(rows)
        found = []
        for one in free:
            for other in free:
                if one != other:
                    rest = [knot for knot in free if knot not in (one, other)]
                    found += further(rest + [joint], rows + [(one, other)])
        return found
    return further(list(range(many)), [])


def any_joining(chance, many):
    """Some joining of so many ends."""
    free = list(range(many))
    rows = []
    while len(free) > 1:
        one = free.pop(chance.randrange(len(free)))
        other = free.pop(chance.randrange(len(free)))
        free.append(many + len(rows))
        rows.append((one, other))
    return tuple(rows)


def chain_joining(many, flipped=False):
    """The ends joined one by one, each with all that are joined before it."""
    rows = []
    for end in range(1, many):
        below = 0 if end == 1 else many + end - 2
        rows.append((end, below) if flipped else (below, end))
    return tuple(rows)


def any_ends(chance, many, wide=10, starts=10):
    """Some ends, about nought."""
    return tuple(
        (chance.randint(-wide, wide), chance.randint(-wide, wide),
         chance.randint(0, starts), chance.randint(0, 9))
        for end in range(many))


def half_steps(ends, one, other):
    """What two ends want, told apart from the program."""
    x, y, start, load = ends[one]
    a, b, begin, burden = ends[other]
    return start + begin + abs(x - a) + abs(y - b)


def spot_far(spot, end):
    """How far, in half steps, a spot is from an end."""
    return max(abs(spot[0] - 2 * (end[0] + end[1])), abs(spot[1] - 2 * (end[0] - end[1])))


def spots_of(box):
    """All spots of a small box."""
    return set(itertools.product(range(box[0], box[1] + 1), range(box[2], box[3] + 1)))


def field_about(ends, some, by):
    """All spots about some ends, so much beyond the outermost."""
    us = [2 * (ends[end][0] + ends[end][1]) for end in some]
    vs = [2 * (ends[end][0] - ends[end][1]) for end in some]
    return itertools.product(range(min(us) - by, max(us) + by + 1), range(min(vs) - by, max(vs) + by + 1))


def beneath_each(many, joining):
    """For each knot the ends beneath it, rising."""
    found = [(end,) for end in range(many)]
    for one, other in joining:
        found.append(tuple(sorted(found[one] + found[other])))
    return found


def even_wires(ends, joining):
    """For each knot {(spot, reach): wire}: the least wire at the grain 2 of even trees of the ends beneath it.

    All of them are gone through, about the ends and up to one grain above the root's height.
    """
    many = len(ends)
    every = range(many)
    highest = max(half_steps(ends, one, other) for one in every for other in every) + 1
    field = list(field_about(ends, every, highest))
    found = [{((2 * (x + y), 2 * (x - y)), 2 * start): 0} for x, y, start, load in ends]
    wired = [one_more_wire(wires, field, highest) for wires in found]
    for one, other in joining:
        here = {at: wired[one][at] + wired[other][at] for at in wired[one] if at in wired[other]}
        found.append(here)
        wired.append(one_more_wire(here, field, highest))
    return found


def one_more_wire(wires, field, highest):
    """The least wire with one more wire on top, of whatever length, that ends at a spot."""
    near = list(itertools.product((-1, 0, 1), repeat=2))
    found = dict(wires)
    for reach in range(highest + 1):
        for u, v in field:
            # A grain more of wire comes from a spot beside this one, or from here.
            below = [found[((u + a, v + b), reach - 1)] + 1 for a, b in near
                     if ((u + a, v + b), reach - 1) in found]
            below += [found[((u, v), reach)]] if ((u, v), reach) in found else []
            if below:
                found[((u, v), reach)] = min(below)
    return found


def least_stands(wires):
    """The pairs of a spot and a reach that the least of such wires have."""
    least = min(wires.values())
    return {at for at in wires if wires[at] == least}


def above_each(many, joining):
    """For each knot but the root the joint above it."""
    return [many + [knot in row for row in joining].index(True) for knot in range(2 * many - 2)]


def way_up(many, joining, end):
    """The knots from an end up to the root, gone up knot by knot."""
    above = above_each(many, joining)
    knots = [end]
    while knots[-1] != 2 * many - 2:
        knots.append(above[knots[-1]])
    return knots


def wire_up(many, joining, lengths, end):
    """The wire from an end to the root."""
    return sum(lengths[knot] for knot in way_up(many, joining, end)[:-1])


def spread(ends, joining, grain, lengths):
    """The gap of a tree of these lengths, told apart from the program."""
    found = [grain * ends[end][2] + wire_up(len(ends), joining, lengths, end) for end in range(len(ends))]
    return max(found) - min(found)


def apart_by_spots(tree, many, joining):
    """How far each knot but the root is from the joint above it."""
    spots = tree[1]
    return [max(abs(spots[knot][0] - spots[joint][0]), abs(spots[knot][1] - spots[joint][1]))
            for knot, joint in enumerate(above_each(many, joining))]


def finer(tree, by):
    """The same tree at a grain so many times as fine."""
    grain, spots, lengths = tree
    return (by * grain, tuple((by * u, by * v) for u, v in spots), tuple(by * length for length in lengths))


def sides_exchanged(joining, which):
    """The joining with the sides of those rows exchanged for which a truth stands."""
    return tuple(row[::-1] if turned else row for row, turned in zip(joining, which))


def reordered(chance, many, joining):
    """The joining with its rows in some right order, and for each knot the number that it has then."""
    numbers = list(range(many)) + [None] * len(joining)
    rows = []
    while len(rows) < len(joining):
        ready = [k for k, (one, other) in enumerate(joining)
                 if numbers[many + k] is None and numbers[one] is not None and numbers[other] is not None]
        k = chance.choice(ready)
        numbers[many + k] = many + len(rows)
        rows.append((numbers[joining[k][0]], numbers[joining[k][1]]))
    return tuple(rows), numbers


def parted_ways(many, joining, one, other):
    """The knots of one's way up that aren't on other's, and of other's that aren't on one's."""
    first = way_up(many, joining, one)
    second = way_up(many, joining, other)
    return [knot for knot in first if knot not in second], [knot for knot in second if knot not in first]


def short_pairs(ends, joining, grain, lengths):
    """All pairs of ends, rising, with less wire between them than they are apart."""
    found = []
    for one, other in itertools.combinations(range(len(ends)), 2):
        first, second = parted_ways(len(ends), joining, one, other)
        way = abs(ends[one][0] - ends[other][0]) + abs(ends[one][1] - ends[other][1])
        if sum(lengths[knot] for knot in first + second) < grain * way:
            found.append((one, other))
    return found


def pulled(low, high, number):
    """The nearest number from low to high."""
    return sorted((low, number, high))[1]


def laid_down(many, joining, boxes, root=None):
    """The spots of knots with these boxes: the root as told, each other one as near as may be to the joint above."""
    above = above_each(many, joining)
    spots = {len(boxes) - 1: root or (boxes[-1][0], boxes[-1][2])}
    for knot in range(len(boxes) - 2, -1, -1):
        u, v = spots[above[knot]]
        spots[knot] = (pulled(boxes[knot][0], boxes[knot][1], u), pulled(boxes[knot][2], boxes[knot][3], v))
    return tuple(spots[knot] for knot in range(len(boxes)))


def beside(box):
    """Spots about a box that aren't in it: at each side, at each corner, and far off."""
    low_u, high_u, low_v, high_v = box
    us = (low_u - 1, low_u, high_u, high_u + 1)
    vs = (low_v - 1, low_v, high_v, high_v + 1)
    near = [(u, v) for u in us for v in vs if not (low_u <= u <= high_u and low_v <= v <= high_v)]
    return near + [(10 ** 12, low_v), (low_u, -10 ** 12), (-10 ** 12, 10 ** 12)]


def one_way_joinings(many):
    """Every joining of so many ends with the lesser side first."""
    return [joining for joining in all_joinings(many) if all(one < other for one, other in joining)]


def times_borne(many, joining, rows):
    """What each wire bears of a paper's rows, told apart from the program."""
    found = [0] * (2 * many - 2)
    for word, one, other, times in rows:
        first, second = parted_ways(many, joining, one, other)
        for knot in first:
            found[knot] += times if word == "far" else -times
        for knot in second:
            found[knot] += times
    return found


def times_worth(ends, gap, paper):
    """The fraction that a paper of times shows, told apart from the program."""
    bottom, rows = paper
    top = 0
    for word, one, other, times in rows:
        if word == "far":
            top += times * (abs(ends[one][0] - ends[other][0]) + abs(ends[one][1] - ends[other][1]))
        else:
            top -= times * (gap + ends[other][2] - ends[one][2])
    return fractions.Fraction(top, bottom)


def as_pair(fraction):
    """A fraction as it is told."""
    return fraction.numerator, fraction.denominator


def height_of(ends, some):
    """The height of some ends, told apart from the program."""
    return max(half_steps(ends, one, other) for one in some for other in some)


def least_wire(ends, joining):
    """The least even wire by what is told of it."""
    if len(ends) == 1:
        return 0
    heights = [height_of(ends, some) for some in beneath_each(len(ends), joining)[len(ends):]]
    return sum(heights) + heights[-1] - 2 * sum(end[2] for end in ends)


def rising_choices(many):
    """All rising tuples of two ends or more, as tuples rise."""
    return sorted(some for size in range(2, many + 1) for some in itertools.combinations(range(many), size))


def two_parts(some):
    """All ways to part some ends in two, both ways round."""
    for size in range(1, len(some)):
        for part in itertools.combinations(some, size):
            yield part, tuple(end for end in some if end not in part)


def room_of(ends, numbers, some):
    """The most that the number of some ends may be, by those of their parts, which a dict has."""
    return height_of(ends, some) + min(
        numbers.get(one, 0) + numbers.get(other, 0) for one, other in two_parts(some))


def table_of(numbers):
    """The table of such numbers."""
    return tuple(sorted(numbers.items()))


def greatest_numbers(ends):
    """For each choice of ends the greatest number that a table may have there."""
    numbers = {}
    for some in sorted(rising_choices(len(ends)), key=len):
        numbers[some] = room_of(ends, numbers, some)
    return numbers
