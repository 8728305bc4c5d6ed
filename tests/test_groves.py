"""Groves: points 27 and 28, and of point 3 the sentence on what comes and goes."""

import itertools
import random
import string
import unittest
from unittest import mock

import evenwires.groves
from evenwires.ends import is_ends, is_joining
from evenwires.errors import Full, NoEnd, NoPlace, Twice, WireError
from evenwires.groves import Grove
from evenwires.loads import loads_of
from evenwires.rows import joined, rows_of
from tests.helpers import refuse
from tests.plain_grove import PlainGrove, knots_told

MILLION = 10 ** 6
NAMES = tuple(string.ascii_lowercase[:24])


def all_told(grove):
    """All that a grove tells."""
    told = [grove.names(), grove.now(), grove.reckoned()]
    for name in grove.names():
        above = 0
        while True:
            try:
                told.append((name, above, grove.row(name, above), grove.load(name, above)))
            except NoPlace:
                break
            above += 1
    return repr(told)


class Groves(unittest.TestCase):

    def setUp(self):
        self.begin()

    def begin(self):
        self.grove = Grove()
        self.plain = PlainGrove()

    def come(self, *told):
        self.assertIsNone(self.grove.come(*told))
        self.plain.come(*told)
        self.right()

    def go(self, name):
        self.assertIsNone(self.grove.go(name))
        self.plain.go(name)
        self.right()

    def right(self):
        """The grove tells all that it is to tell, twice."""
        for turn in range(2):
            self.assertEqual(repr(self.grove.names()), repr(tuple(self.plain.ends)))
            self.assertEqual(repr(self.grove.now()), repr(self.plain.now()))
            self.assertEqual(repr(self.grove.reckoned()), repr(self.plain.reckoned))
        ends, joining = self.grove.now()
        self.assertEqual(is_ends(ends), ends != ())
        self.assertTrue(ends == () or is_joining(len(ends), joining))
        self.knots_right()

    def knots_right(self):
        told = knots_told(self.plain)
        for (name, above), (row, load) in told.items():
            self.assertEqual(repr(self.grove.row(name, above)), repr(row))
            self.assertEqual(repr(self.grove.load(name, above)), repr(load))
        for name in self.plain.ends:
            with self.assertRaises(NoPlace):
                self.grove.row(name, len([at for at in told if at[0] == name]))

    def refused(self, refusal, deed, *told):
        """The deed is refused, and nothing is changed."""
        before = all_told(self.grove)
        refuse(self, refusal, getattr(self.grove, deed), *told)
        self.assertEqual(all_told(self.grove), before)

    def chain_of(self, many, above=None, chance=random.Random(211)):
        """A grove of so many ends, each beside the first one, above all or so many joints above it."""
        self.begin()
        for k, name in enumerate(NAMES[:many]):
            at = (chance.randint(-9, 9), chance.randint(-9, 9), chance.randint(0, 9), chance.randint(0, 9))
            if k == 0:
                self.come(name, *at)
            else:
                self.come(name, *at, NAMES[0], k - 1 if above is None else above)

    def any_grove(self, chance, many, wide=9, starts=9):
        self.begin()
        for name in NAMES[:many]:
            self.any_coming(chance, name, wide, starts)

    def any_coming(self, chance, name, wide=9, starts=9):
        at = (chance.randint(-wide, wide), chance.randint(-wide, wide), chance.randint(0, starts), chance.randint(0, 9))
        places = self.plain.places()
        if places:
            self.come(name, *at, *chance.choice(places))
        else:
            self.come(name, *at)


class Comings(Groves):

    def test_empty(self):
        self.right()
        self.assertEqual(repr(self.grove.names()), "()")
        self.assertEqual(repr(self.grove.now()), "((), ())")
        self.assertEqual(repr(self.grove.reckoned()), "0")

    def test_the_first_one(self):
        self.come("a", 3, 4, 5, 6)
        self.assertEqual(self.grove.now(), (((3, 4, 5, 6),), ()))
        self.assertEqual(self.grove.row("a", 0), (10, (14, 14, -2, -2)))
        self.assertEqual(self.grove.load("a", 0), 6)
        self.assertEqual(self.grove.reckoned(), 0)

    def test_the_first_one_with_all_told(self):
        self.come("a", 3, 4, 5, 6, None, 0)
        self.begin()
        self.come("a", 3, 4, 5, 6, None)

    def test_a_few(self):
        self.come("anna", 0, 0, 0, 1)
        self.come("bert", 4, 0, 2, 1, "anna")
        self.assertEqual(self.grove.now()[1], ((0, 1),))
        self.assertEqual(self.grove.reckoned(), 1)
        # Beside the end itself: both stand where it stood, on the first side.
        self.come("cora", 1, 1, 0, 1, "anna", 0)
        self.assertEqual(self.grove.now(), (((0, 0, 0, 1), (4, 0, 2, 1), (1, 1, 0, 1)), ((0, 2), (3, 1))))
        self.assertEqual(self.grove.reckoned(), 3)
        # Above all: the root becomes the first side.
        self.come("dora", 9, 9, 1, 5, "cora", 2)
        self.assertEqual(self.grove.now()[1], ((0, 2), (4, 1), (5, 3)))
        self.assertEqual(self.grove.reckoned(), 4)
        # Beside a second side, and beside a joint in the midst.
        self.come("emil", 2, 2, 2, 2, "bert", 0)
        self.assertEqual(self.grove.now()[1], ((0, 2), (1, 4), (5, 6), (7, 3)))
        self.assertEqual(self.grove.reckoned(), 7)
        self.come("fred", 2, 2, 2, 2, "emil", 1)
        self.assertEqual(self.grove.now()[1], ((0, 2), (1, 4), (7, 5), (6, 8), (9, 3)))
        self.assertEqual(self.grove.reckoned(), 10)
        self.assertEqual(self.grove.names(), ("anna", "bert", "cora", "dora", "emil", "fred"))
        self.assertEqual([self.grove.load("fred", above) for above in range(4)], [2, 5, 7, 12])

    def test_beside_each_knot_of_a_chain(self):
        for many in (1, 2, 3, 6, 12):
            for way in (None, 0):
                self.chain_of(many, way)
                for beside, above in self.plain.places():
                    self.chain_of(many, way)
                    self.come("new", 1, -2, 3, 4, beside, above)

    def test_beside_each_knot_of_any_grove(self):
        for seed in range(212, 216):
            self.any_grove(random.Random(seed), 6)
            for beside, above in self.plain.places():
                self.any_grove(random.Random(seed), 6)
                self.come("new", 1, -2, 3, 4, beside, above)
                self.go("new")

    def test_chains_of_24(self):
        self.chain_of(24)
        # One by one above all: each reckons its own joint alone.
        self.assertEqual(self.grove.reckoned(), 23)
        self.assertEqual(len(self.plain.chain("a")), 24)
        self.chain_of(24, 0)
        # Each beneath all others: one joint more each time.
        self.assertEqual(self.grove.reckoned(), sum(range(1, 24)))
        self.assertEqual(len(self.plain.chain("a")), 24)

    def test_the_order_of_rows(self):
        # Both sides of the root have joints: first those of the first side, whenever they came.
        self.come("a", 0, 0, 0, 0)
        self.come("b", 9, 0, 0, 0, "a")
        self.come("c", 9, 1, 0, 0, "b")
        self.come("d", 0, 1, 0, 0, "a")
        self.assertEqual(self.grove.now()[1], ((0, 3), (1, 2), (4, 5)))

    def test_at_the_bounds(self):
        chance = random.Random(217)
        for turn in range(3):
            self.any_grove(chance, 24, MILLION, MILLION)
        self.begin()
        for k, (x, y, start) in enumerate(itertools.product((-MILLION, MILLION), (-MILLION, MILLION), (0, MILLION))):
            self.come(NAMES[k], x, y, start, MILLION, *(("a", 0) if k else ()))

    def test_names_that_differ_in_one_letter(self):
        names = ("a", "aa", "aaaaaaaa", "aaaaaaab", "baaaaaaa", "aaaabaaa", "aaaaaaa", "b", "ab", "ba", "z", "zzzzzzzz")
        for k, name in enumerate(names):
            for other in names[k:]:
                self.refused(NoEnd, "go", other)
                self.refused(NoEnd, "row", other, 0)
            self.come(name, k, k * k, k, k, *((names[k - 1], 0) if k else ()))
        for name in names[::2]:
            self.go(name)
            self.refused(NoEnd, "load", name, 0)

    def test_words_that_are_told_elsewhere_are_names(self):
        for k, name in enumerate(("none", "any", "come", "go", "root", "row")):
            self.come(name, k, 0, 0, 1, *(("none", 0) if k else ()))


class Goings(Groves):

    def test_the_only_one(self):
        self.come("a", 3, 4, 5, 6)
        self.go("a")
        self.assertEqual(self.grove.now(), ((), ()))
        self.assertEqual(self.grove.reckoned(), 0)
        # It comes again, and as the first one.
        self.come("b", 1, 1, 1, 1)
        self.assertEqual(self.grove.now(), (((1, 1, 1, 1),), ()))

    def test_one_of_two(self):
        for name, other in (("a", "b"), ("b", "a")):
            self.begin()
            self.come("a", 3, 4, 5, 6)
            self.come("b", 1, 1, 1, 1, "a")
            self.go(name)
            self.assertEqual(self.grove.names(), (other,))
            self.assertEqual(self.grove.reckoned(), 1)
            self.go(other)
            self.assertEqual(self.grove.names(), ())

    def test_each_end_of_chains(self):
        for many in (2, 3, 5, 9):
            for way in (None, 0):
                for name in NAMES[:many]:
                    self.chain_of(many, way)
                    self.go(name)

    def test_each_end_of_any_grove(self):
        for seed in range(221, 225):
            for name in NAMES[:8]:
                self.any_grove(random.Random(seed), 8)
                self.go(name)

    def test_down_to_none(self):
        chance = random.Random(225)
        for order in (list(NAMES), list(NAMES[::-1]), chance.sample(NAMES, 24)):
            self.any_grove(random.Random(226), 24)
            for name in order:
                self.go(name)
            self.assertEqual(self.grove.now(), ((), ()))
            self.assertEqual(self.grove.names(), ())

    def test_chains_of_24_down_to_none(self):
        for way in (None, 0):
            self.chain_of(24, way)
            for name in NAMES:
                self.go(name)

    def test_who_comes_again_is_the_last(self):
        self.chain_of(4)
        self.go("b")
        self.come("b", 1, 2, 3, 4, "d", 0)
        self.assertEqual(self.grove.names(), ("a", "c", "d", "b"))

    def test_comings_and_goings(self):
        chance = random.Random(227)
        for turn in range(4):
            self.any_grove(chance, chance.randint(0, 9))
            for deed in range(60):
                there = list(self.plain.ends)
                if there and (chance.random() < 0.5 or len(there) == 24):
                    self.go(chance.choice(there))
                else:
                    self.any_coming(chance, chance.choice([name for name in NAMES if name not in there]))

    def test_what_is_not_above_is_as_it_was(self):
        chance = random.Random(228)
        for turn in range(10):
            self.any_grove(chance, 10)
            before = self.rows_by_names()
            self.any_coming(chance, "new")
            above = [frozenset(names) for names in self.names_above("new")]
            after = self.rows_by_names()
            for names, row in before.items():
                if names in after and names not in above:
                    self.assertEqual(after[names], row)

    def rows_by_names(self):
        """For each knot, told by the names beneath it, its row."""
        found = {}
        for name, above in self.plain.places():
            beneath = [other for other in self.plain.ends if self.plain.chain(name)[above] in self.plain.chain(other)]
            found[frozenset(beneath)] = self.grove.row(name, above)
        return found

    def names_above(self, name):
        for shape in self.plain.chain(name):
            yield [other for other in self.plain.ends if shape in self.plain.chain(other)]


class Refusals(Groves):

    def test_of_an_empty_grove(self):
        self.refused(NoEnd, "go", "a")
        self.refused(NoEnd, "row", "a", 0)
        self.refused(NoEnd, "load", "a", 0)
        self.refused(NoEnd, "row", "a", 7)
        # One is told though none is there.
        self.refused(NoEnd, "come", "a", 0, 0, 0, 0, "b", 0)
        self.refused(NoEnd, "come", "a", 0, 0, 0, 0, "b")
        self.refused(NoEnd, "come", "a", 0, 0, 0, 0, "a", 0)
        # Ahead of a number that is none.
        self.refused(NoEnd, "come", "a", 0, 0, 0, 0, "b", 1)
        for above in (1, 2, -1, 24, 99):
            self.refused(NoPlace, "come", "a", 0, 0, 0, 0, None, above)
        self.come("a", 0, 0, 0, 0)

    def test_of_a_grove_that_was_emptied(self):
        self.come("a", 0, 0, 0, 0)
        self.go("a")
        self.refused(NoEnd, "go", "a")
        self.refused(NoEnd, "come", "b", 0, 0, 0, 0, "a", 0)
        self.refused(NoPlace, "come", "b", 0, 0, 0, 0, None, 1)

    def test_twice(self):
        self.chain_of(3)
        for name in NAMES[:3]:
            self.refused(Twice, "come", name, 0, 0, 0, 0, "a", 0)
            # Ahead of all else.
            self.refused(Twice, "come", name, 0, 0, 0, 0)
            self.refused(Twice, "come", name, 0, 0, 0, 0, None, 5)
            self.refused(Twice, "come", name, 0, 0, 0, 0, "x", 0)
            self.refused(Twice, "come", name, 0, 0, 0, 0, "x", 9)
            self.refused(Twice, "come", name, 0, 0, 0, 0, "a", 9)
            self.refused(Twice, "come", name, 0, 0, 0, 0, name, -1)

    def test_twice_of_one(self):
        self.come("a", 0, 0, 0, 0)
        self.refused(Twice, "come", "a", 0, 0, 0, 0)
        self.refused(Twice, "come", "a", 1, 1, 1, 1, "a", 0)

    def test_no_end(self):
        self.chain_of(3)
        self.refused(NoEnd, "come", "d", 0, 0, 0, 0)
        self.refused(NoEnd, "come", "d", 0, 0, 0, 0, None, 0)
        self.refused(NoEnd, "come", "d", 0, 0, 0, 0, None, 1)
        self.refused(NoEnd, "come", "d", 0, 0, 0, 0, "x", 0)
        self.refused(NoEnd, "come", "d", 0, 0, 0, 0, "x", 9)
        self.refused(NoEnd, "come", "d", 0, 0, 0, 0, "d", 0)
        for deed in ("go",):
            self.refused(NoEnd, deed, "d")
        for deed in ("row", "load"):
            for above in (0, 1, 9, -1):
                self.refused(NoEnd, deed, "d", above)

    def test_no_place(self):
        for many, way in ((1, None), (2, None), (5, None), (5, 0)):
            self.chain_of(many, way)
            for name in NAMES[:many]:
                beyond = len(self.plain.chain(name))
                for above in (beyond, beyond + 1, 24, 99, -1, -beyond, -beyond - 1):
                    self.refused(NoPlace, "come", "new", 0, 0, 0, 0, name, above)
                    self.refused(NoPlace, "row", name, above)
                    self.refused(NoPlace, "load", name, above)

    def test_full(self):
        chance = random.Random(231)
        self.any_grove(chance, 23)
        self.any_coming(chance, "x")
        for name, above in self.plain.places()[::5]:
            self.refused(Full, "come", "new", 0, 0, 0, 0, name, above)
        # Behind all others.
        self.refused(Twice, "come", "x", 0, 0, 0, 0, "a", 0)
        self.refused(NoEnd, "come", "new", 0, 0, 0, 0)
        self.refused(NoEnd, "come", "new", 0, 0, 0, 0, "y", 0)
        self.refused(NoPlace, "come", "new", 0, 0, 0, 0, "a", len(self.plain.chain("a")))
        self.refused(NoPlace, "come", "new", 0, 0, 0, 0, "a", -1)
        # One goes, and there is room for one again.
        self.go("c")
        self.any_coming(chance, "new")
        self.refused(Full, "come", "c", 0, 0, 0, 0, "a", 0)

    def test_full_of_chains(self):
        for way in (None, 0):
            self.chain_of(24, way)
            for above in range(24):
                self.refused(Full, "come", "new", 0, 0, 0, 0, "a", above)
            self.refused(NoPlace, "come", "new", 0, 0, 0, 0, "a", 24)

    def test_all_are_wire_errors(self):
        for deed in (lambda: self.grove.go("a"), lambda: self.grove.row("a", 0), lambda: self.grove.load("a", 0),
                     lambda: self.grove.come("a", 0, 0, 0, 0, None, 1)):
            with self.assertRaises(WireError):
                deed()

    def test_after_refusals_all_goes_on(self):
        chance = random.Random(232)
        self.any_grove(chance, 5)
        for turn in range(20):
            self.refused(Twice, "come", "a", 0, 0, 0, 0, "b", 0)
            self.refused(NoEnd, "come", "new", 0, 0, 0, 0, "old", 0)
            self.refused(NoPlace, "come", "new", 0, 0, 0, 0, "a", 20)
            self.refused(NoEnd, "go", "new")
        self.any_coming(chance, "new")
        self.go("a")


class Reckoned(Groves):

    def joined_calls(self, deed, *told):
        """What is joined in a deed: the rows, two by two."""
        with mock.patch.object(evenwires.groves, "joined", wraps=joined) as watched:
            getattr(self.grove, deed)(*told)
        return [call.args for call in watched.call_args_list]

    def test_each_once_of_both_sides(self):
        chance = random.Random(241)
        for turn in range(12):
            self.any_grove(chance, chance.randint(1, 12))
            before = self.grove.reckoned()
            place = chance.choice(self.plain.places())
            told = ("new", 1, 2, 3, 4) + place
            calls = self.joined_calls("come", *told)
            self.plain.come(*told)
            self.right()
            self.assertEqual(len(calls), self.grove.reckoned() - before)
            rows = [self.grove.row("new", above + 1) for above in range(len(calls))]
            self.assertEqual([joined(*call)[:2] for call in calls], rows)
            before = self.grove.reckoned()
            name = chance.choice(list(self.plain.ends))
            calls = self.joined_calls("go", name)
            self.plain.go(name)
            self.right()
            self.assertEqual(len(calls), self.grove.reckoned() - before)

    def test_asking_reckons_none(self):
        self.any_grove(random.Random(242), 9)
        before = self.grove.reckoned()
        for name, above in self.plain.places():
            self.assertEqual(self.joined_calls("row", name, above), [])
            self.assertEqual(self.joined_calls("load", name, above), [])
        self.assertEqual(self.joined_calls("now"), [])
        self.assertEqual(self.grove.reckoned(), before)

    def test_two_groves_at_once(self):
        one, other = Grove(), Grove()
        one.come("a", 0, 0, 0, 1)
        self.assertEqual((one.names(), other.names()), (("a",), ()))
        other.come("a", 5, 5, 5, 5)
        other.come("b", 5, 5, 5, 5, "a")
        self.assertEqual((one.reckoned(), other.reckoned()), (0, 1))
        one.go("a")
        self.assertEqual((one.now(), len(other.now()[0])), (((), ()), 2))

    def test_the_root_of_each_chain_has_all(self):
        self.any_grove(random.Random(243), 24)
        ends, joining = self.grove.now()
        for name in self.plain.ends:
            top = len(self.plain.chain(name)) - 1
            self.assertEqual(self.grove.row(name, top), rows_of(ends, joining)[-1])
            self.assertEqual(self.grove.load(name, top), loads_of(ends, joining)[-1])


if __name__ == "__main__":
    unittest.main()
