"""10.1: set_shown, set_read."""

import unittest

from tests.samples import (FAR, RINGS, WRONG_RINGS, WRONG_SETS_OF_5, Checks, all_sets, deep, many_sets,
                           rows_with_gaps)
from twosetsums.errors import NoRing, NoSet, NoText
from twosetsums.texts import set_read, set_shown

# Texts that write no set of a ring of 12 places, and the number of the first wrong word of each.
WRONG_TEXTS = [
    ("", 0), (" ", 0), ("  ", 0), (" 1", 0), ("  1", 0), ("1 ", 1), ("1  ", 1), ("1  2", 1), ("1 2 ", 2),
    ("1 2  3", 2), ("0 ", 1), (" none", 0), ("none ", 0), ("none none", 0), ("none 1", 0), ("1 none", 1),
    ("None", 0), ("NONE", 0), ("nonee", 0), ("non", 0), ("0 1 none 2", 2),
    ("00", 0), ("01", 0), ("0 01", 1), ("1 02", 1), ("1 2 03", 2), ("011", 0), ("000", 0),
    ("-1", 0), ("-0", 0), ("+1", 0), ("0 +1", 1), ("0 -1", 1), ("1_0", 0), ("0 1_0", 1), ("1.0", 0), ("1e0", 0),
    ("0x1", 0), ("1,2", 0), ("1, 2", 0), ("1;2", 0), ("(1)", 0), ("()", 0), ("(1, 2)", 0), ("[1]", 0),
    ("\u0661", 0), ("0 \u0661", 1), ("\u00b2", 0), ("1 \uff12", 1), ("\u0967\u0966", 0),
    ("12", 0), ("0 12", 1), ("0 11 12", 2), ("13", 0), ("99", 0), ("100", 0), (str(FAR), 0), ("1 " + str(FAR), 1),
    ("1 0", 1), ("0 2 1", 2), ("0 1 2 3 2", 4), ("11 10", 1), ("9 10 8", 2), ("3 2 1", 1), ("0 2 1 x", 2),
    ("0 0", 1), ("1 1", 1), ("0 1 1", 2), ("11 11", 1), ("0 5 5 4", 2),
    ("a", 0), ("1 a", 1), ("1a", 0), ("a1", 0), ("~", 0), ("1 ~", 1), ("\"1\"", 0), ("x 1", 0), ("1 x 0", 1),
    ("1\t2", 0), ("1\n2", 0), ("1\n", 0), ("\n1", 0), ("1 \n", 1), ("1\t", 0), ("1\u00a02", 0), ("0 1 2 3 4 x", 5),
]

NO_TEXTS = [None, True, False, 0, 1, -1, FAR, [], [1], ["1"], (), (1,), ("1",), {}, {1: 2}, {"1": "1"}, b"1", b"none",
            deep(10)]


class TextsTest(Checks, unittest.TestCase):

    def there_and_back(self, ring, some):
        # Written by hand, sign by sign, as a second reckoning.
        text = ""
        for number in some:
            text += " " * (text != "") + "0123456789"[number // 10] * (number > 9) + "0123456789"[number % 10]
        text = text or "none"
        self.told(text, set_shown, ring, some)
        self.told(some, set_read, ring, text)

    def test_ordinary(self):
        self.told("0 3 11", set_shown, 12, (0, 3, 11))
        self.told((0, 3, 11), set_read, 12, "0 3 11")
        self.told("none", set_shown, 2, ())
        self.told((), set_read, 2, "none")
        self.told("0 1", set_shown, 2, (0, 1))
        self.told("0", set_shown, 24, (0,))
        self.told((9, 10, 23), set_read, 24, "9 10 23")

    def test_there_and_back(self):
        for ring in RINGS:
            self.there_and_back(ring, ())
            self.there_and_back(ring, tuple(range(ring)))
            for number in range(ring):
                self.there_and_back(ring, (number,))
            for some in (*many_sets(ring), *rows_with_gaps(ring)):
                self.there_and_back(ring, some)
        for some in all_sets(7):
            self.there_and_back(7, some)

    def refused_at(self, at, ring, text):
        error = self.refused(NoText, set_read, ring, text)
        self.assertEqual(repr(error.at), repr(at), text)

    def test_texts_that_write_no_set(self):
        for text, at in WRONG_TEXTS:
            self.refused_at(at, 12, text)

    def test_numbers_of_greater_rings(self):
        for ring in RINGS:
            self.refused_at(0, ring, str(ring))
            self.refused_at(1, ring, f"{ring - 1} {ring}")
            self.refused_at(2, ring, f"0 1 {ring}")
            self.refused_at(ring, ring, " ".join(str(number) for number in range(ring + 1)))

    def test_what_is_no_text(self):
        for ring in (2, 12, 24):
            for thing in NO_TEXTS:
                self.refused_at(-1, ring, thing)

    def test_no_rings(self):
        for ring in WRONG_RINGS:
            for text in ("none", "0", "", "x", None, 1):
                self.refused(NoRing, set_read, ring, text)
            for some in ((), (0,), None, [0]):
                self.refused(NoRing, set_shown, ring, some)

    def test_no_sets(self):
        for wrong in WRONG_SETS_OF_5:
            self.refused(NoSet, set_shown, 5, wrong)
