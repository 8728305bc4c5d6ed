"""Ends with a joining, and trees, as texts: point 6, with 2, 4, 5 and 11."""

import random
import re
import unittest

from evenwires.errors import NoText, WireError
from evenwires.texts import read_tree, read_wires, show_tree, show_wires
from tests.helpers import (
    GREAT_THINGS, any_ends, any_joining, chain_joining, refuse, tell)

THIRTY = 10 ** 30 - 1
NUMBER = r"(?:0|-?[1-9][0-9]{0,29})"
WIRES = re.compile(
    rf"wires {NUMBER}((?:\nend {NUMBER} {NUMBER} {NUMBER} {NUMBER})*)((?:\njoin {NUMBER} {NUMBER})*)")
TREE = re.compile(rf"tree {NUMBER}((?:\n{NUMBER} {NUMBER} {NUMBER})*)\n{NUMBER} {NUMBER}")

# Words that write no number, each of them one that some reading lets by.
NO_WORDS = (
    "", "-", "+", "-0", "+0", "00", "-00", "01", "007", "-01", "+1", "--1", "+-1", "1-", "1+", "- 1",
    "1.0", "1.", ".5", "1e3", "0x1", "1_0", "1,0", "a", "x", "one", "None", "True", "1\t", "\t1", "1\r",
    "\u0663", "\u00b2", "1\u0663", "\uff11", "\u2212" + "1", "9" * 31, "-" + "9" * 31, "1" + "0" * 30,
    "-1" + "0" * 30, "0" * 30, "0" * 31, "'1'", "(1)", "1;", "#1",
)

NO_TEXTS = GREAT_THINGS + (
    None, True, False, 0, 1, -1, (), [], {},
    ("wires 1", "end 0 0 0 0"), ["wires 1", "end 0 0 0 0"], {"wires 1": "end 0 0 0 0"},
    ("wires 1\nend 0 0 0 0",), ["wires 1\nend 0 0 0 0"], {"wires 1\nend 0 0 0 0": 1},
    ("tree 1\n0 0",), ["tree 1\n0 0"], ["tree 1", "0 0"], {"tree 1\n0 0": 1},
    (((0, 0, 0, 0),), ()), (1, ((0, 0),), ()),
    "", " ", "\n", "wires", "tree", "wires ", "tree ", "end 0 0 0 0", "join 0 1", "0 0", "0 0 0",
)


def wires_by_pattern(text):
    """What a text of wires shows, read another way, or None."""
    if WIRES.fullmatch(text) is None:
        return None
    lines = [line.split(" ") for line in text.split("\n")]
    many = int(lines[0][1])
    ends = tuple(tuple(map(int, line[1:])) for line in lines if line[0] == "end")
    joining = tuple(tuple(map(int, line[1:])) for line in lines if line[0] == "join")
    if not 1 <= many <= 24 or len(ends) != many or len(joining) != many - 1:
        return None
    if any(end[2] < 0 or end[3] < 0 for end in ends):
        return None
    if sorted(knot for row in joining for knot in row) != list(range(2 * many - 2)):
        return None
    if any(max(row) >= many + at for at, row in enumerate(joining)):
        return None
    return ends, joining


def tree_by_pattern(text):
    """What a text of a tree shows, read another way, or None."""
    if TREE.fullmatch(text) is None:
        return None
    lines = [line.split(" ") for line in text.split("\n")]
    grain = int(lines[0][1])
    rows = [tuple(map(int, line)) for line in lines[1:]]
    lengths = tuple(row[2] for row in rows[:-1])
    if grain < 1 or len(rows) not in range(1, 48, 2) or any(length < 0 for length in lengths):
        return None
    return grain, tuple(row[:2] for row in rows), lengths


def edits(text):
    """The text with one sign left out, put in or exchanged, or two lines exchanged."""
    signs = " \n-+01239awj"
    for at in range(len(text) + 1):
        yield text[:at] + text[at + 1:]
        for sign in signs:
            yield text[:at] + sign + text[at:]
            yield text[:at] + sign + text[at + 1:]
    lines = text.split("\n")
    for at in range(len(lines)):
        yield "\n".join(lines[:at] + lines[at + 1:])
        yield "\n".join(lines[:at] + [lines[at]] + lines[at:])
        for other in range(at):
            swapped = list(lines)
            swapped[at], swapped[other] = lines[other], lines[at]
            yield "\n".join(swapped)


def words_exchanged(text, word):
    """The text with each of its words in turn exchanged for this one."""
    for found in re.finditer(r"[^ \n]+", text):
        yield text[:found.start()] + word + text[found.end():]


def blanks_and_line_ends(text):
    """The text with more or other blanks and line ends than it has."""
    for more in (" ", "\n", "\t", "\r", "\r\n", "  ", "\n\n"):
        yield text + more
        yield more + text
        for found in re.finditer(r"[ \n]", text):
            yield text[:found.start()] + more + text[found.start():]
            yield text[:found.end()] + more + text[found.end():]
    for other in ("\r\n", "\r", "\x0b", "\x0c", "\x85", "\u2028", ";", " ", ""):
        yield text.replace("\n", other)
    for other in ("\t", "\xa0", "\u3000", ",", "_", ""):
        yield text.replace(" ", other)


def as_the_pattern_says(test, read, by_pattern, texts):
    """Each edit of the texts is read as by the pattern, or refused."""
    for text in texts:
        for edited in edits(text):
            want = by_pattern(edited)
            if want is None:
                with test.assertRaises(NoText, msg=repr(edited)):
                    read(edited)
            else:
                test.assertEqual(repr(read(edited)), repr(want), repr(edited))


class Wires(unittest.TestCase):

    def wrong(self, thing):
        refuse(self, NoText, read_wires, thing)

    def right(self, text, want):
        tell(self, want, read_wires, text)
        tell(self, text, show_wires, *want)

    def test_one_end(self):
        self.right("wires 1\nend 0 0 0 0", (((0, 0, 0, 0),), ()))
        self.right("wires 1\nend -3 4 5 6", (((-3, 4, 5, 6),), ()))

    def test_few_ends(self):
        self.right("wires 2\nend 0 0 0 0\nend 10 -20 30 40\njoin 1 0",
                   (((0, 0, 0, 0), (10, -20, 30, 40)), ((1, 0),)))
        self.right("wires 3\nend 1 2 3 4\nend 1 2 3 4\nend 9 9 0 0\njoin 0 2\njoin 3 1",
                   (((1, 2, 3, 4), (1, 2, 3, 4), (9, 9, 0, 0)), ((0, 2), (3, 1))))

    def test_what_is_written_is_read_back(self):
        chance = random.Random(31)
        for many in list(range(1, 25)) * 2:
            ends = any_ends(chance, many, 10 ** 6, 10 ** 6)
            joining = any_joining(chance, many)
            text = show_wires(ends, joining)
            self.assertEqual(wires_by_pattern(text), (ends, joining))
            self.right(text, (ends, joining))

    def test_24_ends_and_25(self):
        for many in (24, 25, 26, 48):
            ends = tuple((k, -k, k, 0) for k in range(many))
            lines = [f"wires {many}"] + [f"end {k} {-k} {k} 0" for k in range(many)]
            joining = chain_joining(many)
            lines += [f"join {one} {other}" for one, other in joining]
            if many == 24:
                self.right("\n".join(lines), (ends, joining))
            else:
                self.wrong("\n".join(lines))

    def test_numbers_of_thirty_figures_and_more(self):
        for great in (THIRTY, 10 ** 29, 10 ** 12, 10 ** 6 + 1):
            self.right(f"wires 1\nend {great} {-great} {great} {great}",
                       (((great, -great, great, great),), ()))
        for place in range(4):
            words = ["0"] * 4
            words[place] = str(THIRTY + 1)
            self.wrong("wires 1\nend " + " ".join(words))
        self.wrong(f"wires 1\nend {-THIRTY - 1} 0 0 0")
        self.wrong(f"wires 1\nend 0 {-THIRTY - 1} 0 0")

    def test_other_words_than_numbers(self):
        text = "wires 2\nend 1 2 3 4\nend 5 6 7 8\njoin 0 1"
        for word in NO_WORDS:
            for edited in words_exchanged(text, word):
                self.wrong(edited)

    def test_a_wrong_word(self):
        text = "wires 2\nend 1 2 3 4\nend 5 6 7 8\njoin 0 1"
        for word in ("wires", "end", "join", "tree", "Wires", "END", "ends", "wire", "joins", "joi"):
            for edited in words_exchanged(text, word):
                if edited != text:
                    self.wrong(edited)

    def test_blanks_and_line_ends(self):
        for text in blanks_and_line_ends("wires 2\nend 1 2 3 4\nend 5 6 7 8\njoin 0 1"):
            self.wrong(text)

    def test_missing_and_extra_lines(self):
        text = "wires 3\nend 1 2 3 4\nend 5 6 7 8\nend 0 0 0 0\njoin 0 1\njoin 2 3"
        lines = text.split("\n")
        self.right(text, (((1, 2, 3, 4), (5, 6, 7, 8), (0, 0, 0, 0)), ((0, 1), (2, 3))))
        for at in range(6):
            self.wrong("\n".join(lines[:at] + lines[at + 1:]))
            for extra in lines + ["", "end 0 0 0 0", "join 4 5", "0 0 0", "0 0"]:
                self.wrong("\n".join(lines[:at] + [extra] + lines[at:]))
                self.wrong("\n".join(lines + [extra]))
        for many in (-3, 0, 1, 2, 4, 5, 24, 25, THIRTY):
            self.wrong(text.replace("wires 3", f"wires {many}"))
        self.wrong("wires 0")
        self.wrong("wires 0\n")
        self.wrong("wires 1")
        self.wrong("wires 1\n")
        self.wrong("wires -1")

    def test_lines_of_other_sizes(self):
        for text in (
                "wires\nend 0 0 0 0", "wires 1 1\nend 0 0 0 0", "wires 1\nend 0 0 0",
                "wires 1\nend 0 0 0 0 0", "wires 1\nend", "wires 1\n0 0 0 0",
                "wires 2\nend 0 0 0 0\nend 0 0 0 0\njoin 0", "wires 2\nend 0 0 0 0\nend 0 0 0 0\njoin",
                "wires 2\nend 0 0 0 0\nend 0 0 0 0\njoin 0 1 2", "wires 2\nend 0 0 0 0\nend 0 0 0 0\n0 1"):
            self.wrong(text)

    def test_ends_that_are_none(self):
        self.wrong("wires 1\nend 0 0 -1 0")
        self.wrong("wires 1\nend 0 0 0 -1")
        self.wrong(f"wires 1\nend 0 0 0 {-THIRTY}")
        self.wrong("wires 2\nend 0 0 0 0\nend 0 0 -1 0\njoin 0 1")
        self.wrong("wires 2\nend 0 0 0 -1\nend 0 0 0 0\njoin 0 1")

    def test_joinings_that_are_none(self):
        two = "wires 2\nend 0 0 0 0\nend 1 1 1 1"
        for row in ("0 0", "1 1", "0 2", "2 0", "-1 0", "0 -1", "1 2", "2 3", f"0 {THIRTY}"):
            self.wrong(f"{two}\njoin {row}")
        three = "wires 3\nend 0 0 0 0\nend 1 1 1 1\nend 2 2 2 2"
        for rows in (("0 1", "0 2"), ("0 1", "2 2"), ("0 1", "2 4"), ("0 3", "1 2"), ("0 1", "1 3"),
                     ("2 3", "0 1"), ("0 1", "3 -2"), ("0 1", "0 1"), ("0 1", "3 3")):
            self.wrong(f"{three}\njoin {rows[0]}\njoin {rows[1]}")

    def test_things_that_are_no_texts(self):
        for thing in NO_TEXTS + ("tree 1\n0 0", "tree 2\n0 0 1\n2 2 1\n1 1"):
            self.wrong(thing)

    def test_whatever_edit_is_read_only_where_it_is_so_written(self):
        as_the_pattern_says(self, read_wires, wires_by_pattern, (
            "wires 1\nend 0 -10 3 0", "wires 2\nend 1 -2 0 4\nend 10 6 7 8\njoin 1 0",
            "wires 3\nend 1 2 3 4\nend 5 6 0 8\nend 0 0 0 0\njoin 0 2\njoin 3 1"))

    def test_no_text_is_a_wire_error(self):
        refuse(self, WireError, read_wires, None)
        refuse(self, WireError, read_tree, None)


class Trees(unittest.TestCase):

    def wrong(self, thing):
        refuse(self, NoText, read_tree, thing)

    def right(self, text, want):
        tell(self, want, read_tree, text)
        tell(self, text, show_tree, want)

    def test_one_knot(self):
        self.right("tree 1\n0 0", (1, ((0, 0),), ()))
        self.right("tree 1000\n-5 7", (1000, ((-5, 7),), ()))

    def test_three_knots(self):
        self.right("tree 2\n0 0 4\n8 8 4\n4 4", (2, ((0, 0), (8, 8), (4, 4)), (4, 4)))
        self.right("tree 2\n-1 2 0\n3 -4 10\n-5 -6", (2, ((-1, 2), (3, -4), (-5, -6)), (0, 10)))

    def test_whether_it_holds_is_not_asked(self):
        self.right("tree 2\n0 0 0\n100 100 0\n-50 3", (2, ((0, 0), (100, 100), (-50, 3)), (0, 0)))

    def test_what_is_written_is_read_back(self):
        chance = random.Random(32)
        for knots in list(range(1, 48, 2)) * 2:
            spots = tuple((chance.randint(-10 ** 12, 10 ** 12), chance.randint(-10 ** 12, 10 ** 12))
                          for knot in range(knots))
            lengths = tuple(chance.randint(0, 10 ** 10) for knot in range(knots - 1))
            tree = (chance.randint(1, 1000), spots, lengths)
            text = show_tree(tree)
            self.assertEqual(tree_by_pattern(text), tree)
            self.right(text, tree)

    def test_how_many_knots(self):
        for knots in range(0, 52):
            lines = ["tree 3"] + [f"{k} {2 * k} {k}" for k in range(knots - 1)]
            lines += ["7 8"] if knots else []
            spots = tuple((k, 2 * k) for k in range(knots - 1)) + ((7, 8),)
            if knots in range(1, 48, 2):
                self.right("\n".join(lines), (3, spots, tuple(range(knots - 1))))
            else:
                self.wrong("\n".join(lines))

    def test_grains(self):
        for grain in (1, 2, 1000, 1001, THIRTY):
            self.right(f"tree {grain}\n0 0", (grain, ((0, 0),), ()))
        for grain in (0, -1, -2, -THIRTY, THIRTY + 1):
            self.wrong(f"tree {grain}\n0 0")

    def test_lengths(self):
        for length in (0, 1, 10 ** 10 + 1, THIRTY):
            self.right(f"tree 1\n0 0 {length}\n1 1 1\n0 0", (1, ((0, 0), (1, 1), (0, 0)), (length, 1)))
            self.right(f"tree 1\n0 0 1\n1 1 {length}\n0 0", (1, ((0, 0), (1, 1), (0, 0)), (1, length)))
        for length in (-1, -10, -THIRTY, THIRTY + 1):
            self.wrong(f"tree 1\n0 0 {length}\n1 1 1\n0 0")
            self.wrong(f"tree 1\n0 0 1\n1 1 {length}\n0 0")

    def test_spots(self):
        for u in (THIRTY, -THIRTY, 10 ** 12 + 1):
            self.right(f"tree 1\n{u} {-u} 1\n1 {u} 1\n{u} {u}", (1, ((u, -u), (1, u), (u, u)), (1, 1)))
        for u in (THIRTY + 1, -THIRTY - 1):
            for place in range(6):
                words = ["0"] * 6
                words[place] = str(u)
                a, b, c, d, e, f = words
                self.wrong(f"tree 1\n{a} {b} 1\n{c} {d} 1\n{e} {f}")

    def test_a_length_of_the_root_and_a_missing_one(self):
        self.wrong("tree 1\n0 0 0")
        self.wrong("tree 1\n0 0 4\n8 8 4\n4 4 0")
        self.wrong("tree 1\n0 0\n8 8 4\n4 4")
        self.wrong("tree 1\n0 0 4\n8 8\n4 4")
        self.wrong("tree 1\n0 0\n8 8\n4 4")
        self.wrong("tree 1\n0 0 4 4\n8 8 4\n4 4")
        self.wrong("tree 1\n0 0 4\n8 8 4\n4")
        self.wrong("tree 1\n0 0 4\n8 8 4\n")
        self.wrong("tree 1\n0")
        self.wrong("tree 1\n")
        self.wrong("tree 1")

    def test_other_words_than_numbers(self):
        text = "tree 2\n1 2 4\n8 -8 4\n4 5"
        for word in NO_WORDS + ("tree", "wires", "Tree", "trees"):
            for edited in words_exchanged(text, word):
                if edited != text:
                    self.wrong(edited)

    def test_blanks_and_line_ends(self):
        for text in blanks_and_line_ends("tree 2\n1 2 4\n8 -8 4\n4 5"):
            self.wrong(text)

    def test_things_that_are_no_texts(self):
        for thing in NO_TEXTS + ("wires 1\nend 0 0 0 0", "wires 1\n0 0"):
            self.wrong(thing)

    def test_whatever_edit_is_read_only_where_it_is_so_written(self):
        as_the_pattern_says(self, read_tree, tree_by_pattern, (
            "tree 1\n0 -10", "tree 10\n1 -2 0\n10 6 7\n-1 0",
            "tree 2\n1 2 4\n8 -8 4\n0 0 10\n5 5 0\n4 5"))


if __name__ == "__main__":
    unittest.main()
