"""A desk: point 29, and of point 3 that what it tells is told of its ends and joining made at once."""

import fractions
import random
import string
import unittest

from evenwires.best import best_joining
from evenwires.desk import Desk
from evenwires.errors import Full, NoEnd, NoPlace, NoRow, Twice, WireError
from evenwires.even import even_tree, even_wire
from evenwires.free import free_wire
from evenwires.layers import layers_for, layers_shown
from evenwires.least import least
from evenwires.texts import read_tree, read_wires, show_tree, show_wires
from tests.helpers import GREAT_THINGS, NO_TUPLES, least_wire, nested, one_way_joinings, refuse
from tests.plain_grove import PlainGrove, knots_told

MILLION = 10 ** 6
NAMES = tuple(string.ascii_lowercase[:24])
WHOLE = ("text", "tree", "wire", "free", "bound", "best", "least 0", "least 3", "least 10000000", "least any")
FEW = ("come anna 0 0 0 1", "come bert 4 0 2 1 anna 0", "come cora 1 1 0 1 anna 0")


def desk_of(*rows):
    """A desk to which these rows were said."""
    desk = Desk()
    for row in rows:
        desk.say(row)
    return desk


def all_told(desk):
    """All that a desk tells: of the whole, and of each knot."""
    told = [desk.say(row) for row in WHOLE]
    for name in NAMES + ("anna", "bert", "cora", "new"):
        for above in range(25):
            try:
                told.append([desk.say(f"{word} {name} {above}") for word in ("height", "row", "load")])
            except (NoEnd, NoPlace) as error:
                told.append(type(error).__name__)
                break
    return repr(told)


def as_text(fraction):
    """A fraction as a desk tells it."""
    return str(fraction.numerator) if fraction.denominator == 1 else f"{fraction.numerator}/{fraction.denominator}"


class Desks(unittest.TestCase):

    def setUp(self):
        self.begin()

    def begin(self):
        self.desk = Desk()
        self.plain = PlainGrove()

    def tells(self, want, row):
        for turn in range(2):
            self.assertEqual(repr(self.desk.say(row)), repr(want), row)

    def refused(self, refusal, thing):
        """The row is refused, and nothing is changed."""
        before = all_told(self.desk)
        refuse(self, refusal, self.desk.say, thing)
        self.assertEqual(all_told(self.desk), before)

    def come(self, name, x, y, start, load, *place):
        row = " ".join(str(word) for word in ("come", name, x, y, start, load) + place)
        self.assertEqual(repr(self.desk.say(row)), repr("ok"))
        self.plain.come(name, x, y, start, load, *place)

    def go(self, name):
        self.assertEqual(repr(self.desk.say(f"go {name}")), repr("ok"))
        self.plain.go(name)

    def any_coming(self, chance, name, wide=9, starts=9):
        at = (chance.randint(-wide, wide), chance.randint(-wide, wide), chance.randint(0, starts), chance.randint(0, 9))
        places = self.plain.places()
        self.come(name, *at, *(chance.choice(places) if places else ()))

    def any_desk(self, chance, many, wide=9, starts=9):
        self.begin()
        for name in NAMES[:many]:
            self.any_coming(chance, name, wide, starts)


class Telling(Desks):

    def test_a_few(self):
        for row in FEW:
            self.assertEqual(self.desk.say(row), "ok")
        for row, want in (
                ("height anna 0", "0"), ("height bert 0", "4"), ("height anna 1", "2"), ("height cora 2", "6"),
                ("row anna 0", "0 0 0 0"), ("row bert 0", "8 8 8 8"), ("row cora 1", "2 2 -2 2"), ("row anna 2", "6 6 6 6"),
                ("load anna 0", "1"), ("load anna 1", "2"), ("load bert 1", "3"),
                ("text", "wires 3\nend 0 0 0 1\nend 4 0 2 1\nend 1 1 0 1\njoin 0 2\njoin 3 1"),
                ("tree", "tree 2\n0 0 2\n8 8 2\n4 0 2\n2 2 4\n6 6"),
                ("wire", "10"), ("free", "5"), ("bound", "4"), ("best", "10"), ("least 0", "5"), ("least any", "5")):
            self.tells(want, row)
        self.assertEqual(self.desk.say("go bert"), "ok")
        self.tells("wires 2\nend 0 0 0 1\nend 1 1 0 1\njoin 0 1", "text")
        self.tells("4", "wire")

    def test_one_end(self):
        self.come("a", -3, 4, 5, 6)
        for row, want in (
                ("height a 0", "10"), ("row a 0", "2 2 -14 -14"), ("load a 0", "6"), ("text", "wires 1\nend -3 4 5 6"),
                ("tree", "tree 2\n2 -14"), ("wire", "0"), ("free", "0"), ("bound", "0"), ("best", "0"), ("least 0", "0"),
                ("least 7", "0"), ("least any", "0")):
            self.tells(want, row)

    def test_an_empty_grove(self):
        for turn in range(2):
            for row in WHOLE + ("height a 0", "row a 0", "load a 0", "height zzzzzzzz 99", "row any 1", "load none 10",
                                "least 1", "least 10000000"):
                self.tells("none", row)
            self.refused(NoEnd, "go a")
            self.refused(NoEnd, "come a 0 0 0 0 b 0")
            self.refused(NoEnd, "come a 0 0 0 0 a 1")
            # Emptied it is as at the beginning.
            self.come("a", 1, 2, 3, 4)
            self.assertNotEqual(self.desk.say("wire"), "none")
            self.go("a")

    def test_rows_that_are_none_of_an_empty_grove(self):
        for row in ("height a", "height A 0", "height a -1", "height a 100", "row a 0 0", "load aaaaaaaaa 0", "least",
                    "least -1", "least 10000001", "least none", "least any ", "text a", "wire 0", "go", "go A", "none", ""):
            self.refused(NoRow, row)

    def test_half_steps_and_fractions(self):
        # The joint of the first two stands half a step from either.
        self.come("a", 0, 0, 0, 0)
        self.come("b", 1, 0, 0, 0, "a", 0)
        self.come("c", 0, 3, 0, 0, "a", 1)
        self.tells("9", "wire")
        self.tells("9/2", "least 0")
        self.tells("4", "least any")
        self.tells("1", "height a 1")
        self.tells("1 1 1 1", "row a 1")

    def test_fractions_by_the_gap(self):
        self.come("a", 0, 0, 0, 0)
        self.come("b", 10, 0, 0, 0, "a", 0)
        self.come("c", 4, 0, 0, 0, "a", 1)
        for gap, want in enumerate(("15", "14", "13", "12", "11", "21/2", "10", "10")):
            self.tells(want, f"least {gap}")
        self.tells("10", "least 10000000")
        self.tells("10", "least any")

    def test_all_that_the_functions_tell(self):
        chance = random.Random(251)
        for many in (1, 2, 3, 4, 5, 5, 6, 7, 8, 12, 24):
            for wide, starts in ((9, 0), (9, 9), (MILLION, MILLION)):
                self.any_desk(chance, many, wide, starts)
                self.as_functions_tell()

    def as_functions_tell(self):
        """The desk tells what is told of its ends and joining made at once."""
        ends, joining = self.plain.now()
        self.tells(show_wires(ends, joining), "text")
        self.tells(show_tree(even_tree(ends, joining)), "tree")
        self.assertEqual(read_wires(self.desk.say("text")), (ends, joining))
        self.assertEqual(read_tree(self.desk.say("tree")), even_tree(ends, joining))
        self.tells(str(even_wire(ends, joining)), "wire")
        self.tells(str(least_wire(ends, joining)), "wire")
        self.tells(str(free_wire(ends, joining)), "free")
        self.tells(str(layers_shown(ends, layers_for(ends))), "bound")
        self.tells(str(even_wire(ends, best_joining(ends)[0])) if len(ends) <= 7 else "too many", "best")
        for word, gap in (("0", 0), ("1", 1), ("5", 5), ("1000000", MILLION), ("10000000", 10 ** 7), ("any", None)):
            if len(ends) > 5:
                self.tells("too many", f"least {word}")
            else:
                tree, paper = least(ends, joining, gap)
                self.tells(as_text(fractions.Fraction(sum(tree[2]), tree[0])), f"least {word}")
        for (name, above), ((height, box), load) in knots_told(self.plain).items():
            self.tells(str(height), f"height {name} {above}")
            self.tells(" ".join(str(number) for number in box), f"row {name} {above}")
            self.tells(str(load), f"load {name} {above}")

    def test_best_of_all_joinings(self):
        chance = random.Random(252)
        for turn in range(10):
            self.any_desk(chance, chance.choice((3, 4)), 9, 4)
            ends, joining = self.plain.now()
            wires = [least_wire(ends, other) for other in one_way_joinings(len(ends))]
            self.tells(str(min(wires)), "best")

    def test_too_many(self):
        chance = random.Random(253)
        for many in range(4, 10):
            self.any_desk(chance, many)
            self.assertEqual(self.desk.say("best") == "too many", many > 7)
            for row in ("least 0", "least 9", "least any"):
                self.assertEqual(self.desk.say(row) == "too many", many > 5)

    def test_comings_and_goings(self):
        chance = random.Random(254)
        for deed in range(60):
            there = list(self.plain.ends)
            if there and chance.random() < 0.45:
                self.go(chance.choice(there))
            else:
                self.any_coming(chance, chance.choice([name for name in NAMES if name not in there]))
            if self.plain.ends:
                self.as_functions_tell()
            else:
                self.tells("none", "text")

    def test_at_the_bounds(self):
        for row in ("come a -1000000 -1000000 0 0", "come b 1000000 1000000 1000000 1000000 a 0",
                    "come zzzzzzzz 1000000 -1000000 1000000 0 b 1"):
            self.assertEqual(self.desk.say(row), "ok")
        self.tells("wires 3\nend -1000000 -1000000 0 0\nend 1000000 1000000 1000000 1000000\n"
                   "end 1000000 -1000000 1000000 0\njoin 0 1\njoin 3 2", "text")
        self.tells("5000000", "height a 1")
        self.tells("1000000", "load zzzzzzzz 1")

    def test_two_desks_at_once(self):
        one, other = desk_of(*FEW), Desk()
        self.assertEqual(other.say("text"), "none")
        other.say("come anna 7 7 7 7")
        self.assertEqual(one.say("wire"), "10")
        self.assertEqual(other.say("text"), "wires 1\nend 7 7 7 7")
        one.say("go anna")
        self.assertEqual(other.say("load anna 0"), "7")
        other.say("go anna")
        self.assertEqual((one.say("wire") == "none", other.say("wire")), (False, "none"))


class Refusals(Desks):

    def setUp(self):
        self.begin()
        for row in FEW:
            self.desk.say(row)

    def test_as_the_grove_refuses(self):
        for refusal, rows in (
                (Twice, ("come anna 0 0 0 0", "come anna 0 0 0 0 bert 0", "come bert 0 0 0 0 nobody 9")),
                (NoEnd, ("come new 0 0 0 0", "come new 0 0 0 0 nobody 0", "come new 0 0 0 0 nobody 99", "go nobody",
                         "come new 0 0 0 0 new 0", "height nobody 0", "row nobody 99", "load ann 0", "load annaa 0")),
                (NoPlace, ("come new 0 0 0 0 anna 3", "come new 0 0 0 0 bert 2", "come new 0 0 0 0 bert 99",
                           "height anna 3", "row bert 2", "load cora 3", "load cora 99", "height bert 10"))):
            for row in rows:
                self.refused(refusal, row)

    def test_full(self):
        chance = random.Random(261)
        self.any_desk(chance, 24)
        self.refused(Full, "come new 0 0 0 0 a 0")
        self.refused(Twice, "come a 0 0 0 0 a 0")
        self.refused(NoEnd, "come new 0 0 0 0")
        self.refused(NoEnd, "come new 0 0 0 0 z 0")
        self.refused(NoPlace, "come new 0 0 0 0 a 24")
        # No row at all comes first.
        self.refused(NoRow, "come new 0 0 0 0 a 100")
        self.refused(NoRow, "come A 0 0 0 0 a 0")
        self.refused(NoRow, "come new 0 0 0 -1 a 0")

    def test_no_row_comes_first(self):
        for row in ("come anna 0 0 0", "come anna 1000001 0 0 0", "come anna 0 0 0 0 nobody 100", "come new 0 0 0 0 A 3",
                    "come anna 0 0 0 0 anna", "height nobody 100", "go NOBODY", "load nobody -1", "row nobody 00"):
            self.refused(NoRow, row)

    def test_no_place_of_the_first_end_cannot_be_said(self):
        self.begin()
        self.refused(NoEnd, "come new 0 0 0 0 anna 1")
        self.refused(NoRow, "come new 0 0 0 0 1")

    def test_other_numbers_of_words(self):
        for row in ("come", "come new", "come new 0", "come new 0 0", "come new 0 0 0", "come new 0 0 0 0 anna",
                    "come new 0 0 0 0 anna 0 0", "come new 0 0 0 0 0", "come new 0 0 0 0 anna 0 anna 0", "go", "go anna 0",
                    "go anna bert", "height", "height anna", "height anna 0 0", "row", "row anna", "row anna 0 0", "load",
                    "load anna", "load anna 0 0", "text 0", "text anna", "tree 2", "tree anna", "wire 0", "free any",
                    "bound 1", "best 3", "least", "least 0 0", "least any any", "least any 0"):
            self.refused(NoRow, row)

    def test_blanks(self):
        rows = ("come new 0 0 0 0 anna 0", "go anna", "height anna 0", "row anna 0", "load anna 0", "text", "tree",
                "wire", "free", "bound", "best", "least 0", "least any")
        for row in rows:
            for other in (" " + row, row + " ", row.replace(" ", "  "), row.replace(" ", "  ", 1), "  " + row):
                if other != row:
                    self.refused(NoRow, other)
        for row in ("", " ", "  ", "\n", " \n"):
            self.refused(NoRow, row)

    def test_line_ends(self):
        for row in ("come new 0 0 0 0 anna 0", "go anna", "height anna 0", "row anna 0", "load anna 0", "text", "wire",
                    "least 0", "least any"):
            for other in (row + "\n", "\n" + row, row.replace(" ", "\n"), row.replace(" ", " \n"), row + "\n" + row,
                          row[:2] + "\n" + row[2:], row.replace(" ", "\n", 1)):
                if other != row:
                    self.refused(NoRow, other)

    def test_other_words(self):
        for word in ("Come", "GO", "comes", "g", "heights", "Row", "rows", "loads", "Text", "texts", "wires", "Wire",
                     "frees", "bounds", "besT", "leasT", "most", "none", "ok", "names", "now", "reckoned", "say", "0", "-"):
            for row in (word, f"{word} anna", f"{word} anna 0", f"{word} new 0 0 0 0 anna 0", f"{word} any", f"{word} 0"):
                self.refused(NoRow, row)

    def test_numbers_that_are_none(self):
        wrong = ("+1", "01", "00", "-0", "-01", "+0", "1.0", "1e3", "0x1", "1_0", "a", "-", "--1", "1-", "", "1,0", "one",
                 "1" * 31, "0" * 31, "-" + "9" * 31, "9" * 30, "-" + "9" * 30, "9" * 3000, "1/2", "any", "None", "True")
        for word in wrong:
            for row in (f"come new {word} 0 0 0 anna 0", f"come new 0 {word} 0 0 anna 0", f"come new 0 0 {word} 0 anna 0",
                        f"come new 0 0 0 {word} anna 0", f"come new 0 0 0 0 anna {word}", f"come new {word} 0 0 0",
                        f"height anna {word}", f"row anna {word}", f"load anna {word}"):
                self.refused(NoRow, row)
            if word != "any":
                self.refused(NoRow, f"least {word}")

    def test_numbers_beyond_the_bounds(self):
        for word in ("1000001", "-1000001", "10000000", "-9999999999"):
            self.refused(NoRow, f"come new {word} 0 0 0 anna 0")
            self.refused(NoRow, f"come new 0 {word} 0 0 anna 0")
        for word in ("1000001", "-1", "-1000000", "10000000"):
            self.refused(NoRow, f"come new 0 0 {word} 0 anna 0")
            self.refused(NoRow, f"come new 0 0 0 {word} anna 0")
        for word in ("10000001", "-1", "-10000000", "99999999999"):
            self.refused(NoRow, f"least {word}")
        for word in ("100", "-1", "-9", "999", "000", "1000", "010"):
            self.refused(NoRow, f"come new 0 0 0 0 anna {word}")
            for head in ("height", "row", "load"):
                self.refused(NoRow, f"{head} anna {word}")

    def test_at_the_bounds_they_are_let(self):
        for at in ("1000000 0 0 0", "-1000000 0 0 0", "0 1000000 0 0", "0 -1000000 0 0", "0 0 1000000 0", "0 0 0 1000000"):
            self.assertEqual(self.desk.say(f"come new {at} anna 0"), "ok")
            self.assertEqual(self.desk.say("go new"), "ok")
        self.assertEqual(self.desk.say("least 10000000"), "5")
        self.refused(NoPlace, "height anna 99")

    def test_names_that_are_none(self):
        for name in ("", "Anna", "ANNA", "anna1", "an-na", "a_a", "aaaaaaaaa", "anna.", "annA", "1", "0", "-", "a\n", "~",
                     "a" * 3000, "an na", "anna,bert"):
            for row in (f"come {name} 0 0 0 0 anna 0", f"come {name} 0 0 0 0", f"come new 0 0 0 0 {name} 0", f"go {name}",
                        f"height {name} 0", f"row {name} 0", f"load {name} 0"):
                self.refused(NoRow, row)

    def test_names_of_eight_letters(self):
        self.assertEqual(self.desk.say("come abcdefgh 0 0 0 5 anna 0"), "ok")
        self.assertEqual(self.desk.say("load abcdefgh 0"), "5")
        self.assertEqual(self.desk.say("come i 0 0 0 7 abcdefgh 0"), "ok")
        self.refused(NoEnd, "load abcdefg 0")
        self.refused(NoRow, "load abcdefghi 0")
        self.assertEqual(self.desk.say("go abcdefgh"), "ok")

    def test_things_that_are_no_texts(self):
        for thing in tuple(thing for thing in NO_TUPLES if not isinstance(thing, str)) + GREAT_THINGS + (
                ("text",), ["text"], {"text": "text"}, (), ((),), ["come", "new"], nested(19, "text", tuple),
                nested(19, "text", list), ("go", "anna"), ("height", "anna", 0)):
            self.refused(NoRow, thing)

    def test_of_an_empty_grove(self):
        self.begin()
        for thing in NO_TUPLES + GREAT_THINGS:
            self.refused(NoRow, thing)

    def test_all_are_wire_errors(self):
        for row in ("", "go nobody", "height anna 9", "come anna 0 0 0 0"):
            with self.assertRaises(WireError):
                self.desk.say(row)


if __name__ == "__main__":
    unittest.main()
