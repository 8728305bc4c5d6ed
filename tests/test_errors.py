"""The refusals, point 2 and the interface."""

import unittest

from evenwires.errors import (
    Full, NoEnd, NoFit, NoPlace, NoRow, NoText, TooMany, Twice, WireError)

BY_TEXT = (NoText, NoPlace, NoEnd, Twice, Full, TooMany, NoRow)
ALL = BY_TEXT + (NoFit,)


def made(refusal):
    return refusal(3, 5) if refusal is NoFit else refusal("why not")


def caught_by(refusal, catcher):
    try:
        raise made(refusal)
    except catcher:
        return True
    except Exception:
        return False


class Errors(unittest.TestCase):

    def test_wire_error_is_a_value_error(self):
        self.assertTrue(issubclass(WireError, ValueError))
        with self.assertRaises(ValueError):
            raise WireError("why not")

    def test_each_is_caught_by_its_name_and_from_above(self):
        for refusal in ALL:
            with self.subTest(refusal=refusal.__name__):
                self.assertTrue(caught_by(refusal, refusal))
                self.assertTrue(caught_by(refusal, WireError))
                self.assertTrue(caught_by(refusal, ValueError))

    def test_each_is_caught_by_none_of_the_others(self):
        for refusal in ALL:
            for other in ALL:
                if refusal is not other:
                    with self.subTest(refusal=refusal.__name__, other=other.__name__):
                        self.assertFalse(issubclass(refusal, other))
                        self.assertFalse(caught_by(refusal, other))

    def test_a_plain_wire_error_is_none_of_them(self):
        for refusal in ALL:
            self.assertNotIsInstance(WireError("why not"), refusal)

    def test_each_is_made_with_a_text(self):
        for refusal in BY_TEXT:
            for text in ("", "a", "two words", "two\nlines", "a" * 4000):
                with self.subTest(refusal=refusal.__name__):
                    self.assertIsInstance(refusal(text), refusal)

    def test_each_has_its_name(self):
        names = [refusal.__name__ for refusal in ALL]
        self.assertEqual(
            names,
            ["NoText", "NoPlace", "NoEnd", "Twice", "Full", "TooMany", "NoRow", "NoFit"])

    def test_no_fit_has_its_fields(self):
        for one, other in ((0, 1), (1, 0), (3, 23), (7, 7), (-2, 10 ** 59)):
            refusal = NoFit(one, other)
            self.assertEqual((refusal.one, refusal.other), (one, other))
            with self.assertRaises(NoFit) as held:
                raise NoFit(one, other)
            self.assertEqual((held.exception.one, held.exception.other), (one, other))

    def test_each_no_fit_has_fields_of_its_own(self):
        first = NoFit(0, 1)
        second = NoFit(2, 3)
        self.assertEqual((first.one, first.other), (0, 1))
        self.assertEqual((second.one, second.other), (2, 3))


if __name__ == "__main__":
    unittest.main()
