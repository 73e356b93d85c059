"""9.1: sets_many, nth_set, number_of."""

import unittest
from itertools import combinations

from tests.samples import FAR, RINGS, WRONG_RINGS, WRONG_SETS_OF_5, WRONG_WHOLES, Checks, many_sets
from twosetsums.errors import NoNumber, NoRing, NoSet
from twosetsums.numbered import nth_set, number_of, sets_many


def counts_by_sums(ring):
    """The counts of the sets of a ring by size: each place besides is in a set or not."""
    counts = [1]
    for place in range(ring):
        counts = [left + right for left, right in zip([0, *counts], [*counts, 0])]
    return counts


def next_set(ring, some):
    """The next set of as many numbers, as tuples rise, None behind the last one."""
    for at in reversed(range(len(some))):
        if some[at] < ring - len(some) + at:
            return (*some[:at], *range(some[at] + 1, some[at] + 1 + len(some) - at))
    return None


def wrong_sizes(ring):
    return [-1, -2, ring + 1, ring + 2, FAR, -FAR, *WRONG_WHOLES]


class NumberedTest(Checks, unittest.TestCase):

    def test_ordinary(self):
        self.told(35, sets_many, 7, 3)
        self.told((0, 1, 2), nth_set, 7, 3, 0)
        self.told((0, 1, 3), nth_set, 7, 3, 1)
        self.told((1, 2, 3), nth_set, 7, 3, 15)
        self.told((4, 5, 6), nth_set, 7, 3, 34)
        self.told(15, number_of, 7, (1, 2, 3))
        self.told(2, sets_many, 2, 1)
        self.told((1,), nth_set, 2, 1, 1)
        self.told(2704156, sets_many, 24, 12)

    def test_all_sets_of_small_rings_there_and_back(self):
        for ring in range(2, 9):
            for a in range(ring + 1):
                known = sorted(combinations(range(ring), a))
                self.told(len(known), sets_many, ring, a)
                for number, some in enumerate(known):
                    self.told(some, nth_set, ring, a, number)
                    self.told(number, number_of, ring, some)

    def test_counts_of_all_rings(self):
        for ring in RINGS:
            for a, many in enumerate(counts_by_sums(ring)):
                self.assertEqual(self.at_once(sets_many, ring, a, most=2000), many)

    def test_first_and_last_ones_of_all_rings(self):
        for ring in RINGS:
            for a in sorted({0, 1, ring // 2, ring - 1, ring}):
                last = sets_many(ring, a) - 1
                for number, some in ((0, tuple(range(a))), (last, tuple(range(ring - a, ring)))):
                    self.assertEqual(self.at_once(nth_set, ring, a, number, most=20000), some)
                    self.assertEqual(self.at_once(number_of, ring, some, most=20000), number)
                    self.told(some, nth_set, ring, a, number)
                    self.told(number, number_of, ring, some)

    def test_places_within_great_rings(self):
        for ring in (13, 23, 24):
            for a in (1, 2, 5, ring // 2, ring - 2):
                many = sets_many(ring, a)
                for number in {0, 1, many // 7, many // 3, many // 2, many - 2}:
                    some = nth_set(ring, a, number)
                    self.assertEqual(len(some), a)
                    self.told(number, number_of, ring, some)
                    if number + 1 < many:
                        self.told(next_set(ring, some), nth_set, ring, a, number + 1)

    def test_as_many_as_there_are_less_than_a_set(self):
        # A set's place is how many sets of its size are less than it.
        for ring in (9, 10):
            for some in many_sets(ring):
                lesser = [one for one in combinations(range(ring), len(some)) if one < some]
                self.told(len(lesser), number_of, ring, some)
                self.told(some, nth_set, ring, len(some), len(lesser))

    def test_none_and_all(self):
        for ring in RINGS:
            full = tuple(range(ring))
            self.told(1, sets_many, ring, 0)
            self.told(1, sets_many, ring, ring)
            self.told((), nth_set, ring, 0, 0)
            self.told(full, nth_set, ring, ring, 0)
            self.told(0, number_of, ring, ())
            self.told(0, number_of, ring, full)

    def test_no_rings(self):
        for ring in WRONG_RINGS:
            for a in (0, 1, -1, None):
                self.refused(NoRing, sets_many, ring, a)
                self.refused(NoRing, nth_set, ring, a, 0)
                self.refused(NoRing, nth_set, ring, a, None)
            self.refused(NoRing, number_of, ring, (0,))
            self.refused(NoRing, number_of, ring, None)

    def test_no_sizes(self):
        for ring in (2, 5, 23, 24):
            for wrong in wrong_sizes(ring):
                self.refused(NoNumber, sets_many, ring, wrong)
                self.refused(NoNumber, nth_set, ring, wrong, 0)
                self.refused(NoNumber, nth_set, ring, wrong, None)

    def test_places_that_there_are_not(self):
        for ring in RINGS:
            for a in range(ring + 1):
                many = sets_many(ring, a)
                for wrong in (-1, many, many + 1, -many, FAR, -FAR):
                    self.refused(NoNumber, nth_set, ring, a, wrong)
        for wrong in WRONG_WHOLES:
            self.refused(NoNumber, nth_set, 5, 2, wrong)

    def test_no_sets(self):
        for wrong in WRONG_SETS_OF_5:
            self.refused(NoSet, number_of, 5, wrong)
