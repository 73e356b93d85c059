"""0.4 and the interface of errors: the classes of refusals and their fields."""

import unittest

from twosetsums import errors

PLAIN = ["NoRing", "NoPrime", "NoSet", "NoNumber", "NoTrades", "Apart", "NoRow"]
WITH_FIELDS = ["NoList", "NoText", "TooGreat"]


class ErrorsTest(unittest.TestCase):

    def test_ring_error_stands_straight_under_value_error(self):
        self.assertEqual(errors.RingError.__bases__, (ValueError,))

    def test_each_class_stands_straight_under_ring_error(self):
        for name in PLAIN + WITH_FIELDS:
            kind = getattr(errors, name)
            self.assertEqual(kind.__bases__, (errors.RingError,), name)
            self.assertEqual(kind.__name__, name)

    def test_there_are_no_other_classes(self):
        found = {name for name, thing in vars(errors).items() if isinstance(thing, type)}
        self.assertEqual(found, {"RingError", *PLAIN, *WITH_FIELDS})

    def test_plain_ones_are_made_raised_and_caught(self):
        for name in PLAIN:
            kind = getattr(errors, name)
            with self.assertRaises(errors.RingError) as caught:
                raise kind("why")
            self.assertIs(type(caught.exception), kind)
            self.assertIsInstance(kind(), ValueError)

    def test_at_is_as_made(self):
        for kind in (errors.NoList, errors.NoText):
            for at in (-1, 0, 4, 10 ** 30):
                self.assertEqual(vars(kind(at)), {"at": at})
                self.assertEqual(vars(kind(at=at)), {"at": at})

    def test_many_and_most_are_as_made(self):
        self.assertEqual(vars(errors.TooGreat(9, 8)), {"many": 9, "most": 8})
        self.assertEqual(vars(errors.TooGreat(most=100, many=101)), {"many": 101, "most": 100})

    def test_fields_are_wanted(self):
        for kind in (errors.NoList, errors.NoText, errors.TooGreat):
            with self.assertRaises(TypeError):
                kind()

    def test_fields_stay_with_a_raised_one(self):
        with self.assertRaises(errors.RingError) as caught:
            raise errors.TooGreat(13, 12)
        self.assertEqual((caught.exception.many, caught.exception.most), (13, 12))
