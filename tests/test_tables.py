"""9.2 and 9.3: table, least_many, first_few, kinds_many, kinds."""

import unittest
from itertools import combinations
from unittest import mock

from tests.samples import FAR, WRONG_RINGS, WRONG_WHOLES, Checks
from twosetsums import tables
from twosetsums.errors import NoNumber, NoRing, TooGreat
from twosetsums.tables import first_few, kinds, kinds_many, least_many, table

OF_PAIRS = (table, least_many, first_few)
OF_KINDS = (kinds_many, kinds)


def pairs_by_sums(ring, a, b):
    """All pairs of sets of these sizes, rising, by how many sums they have."""
    found = {many: [] for many in range(ring + 1)}
    for one in combinations(range(ring), a):
        for other in combinations(range(ring), b):
            found[len({(x + y) % ring for x in one for y in other})].append((one, other))
    return found


def least_ones(ring, a):
    """The least moved of each set of a numbers, each once, rising."""
    found = set()
    for some in combinations(range(ring), a):
        found.add(min(tuple(sorted((x + by) % ring for x in some)) for by in range(ring)))
    return sorted(found)


def wrong_sizes(ring):
    return [-1, ring + 1, ring + 2, FAR, -FAR, *WRONG_WHOLES]


class TableTest(Checks, unittest.TestCase):

    def check_sizes(self, ring, a, b):
        found = pairs_by_sums(ring, a, b)
        counts = [len(found[many]) for many in range(ring + 1)]
        least = min(many for many in found if found[many])
        self.told(counts, table, ring, a, b)
        self.told(least, least_many, ring, a, b)
        self.told(min(found[least]), first_few, ring, a, b)
        self.assertEqual(len(table(ring, a, b)), ring + 1)

    def test_ordinary(self):
        self.told([0, 0, 4, 16, 16], table, 4, 2, 2)
        self.told(2, least_many, 4, 2, 2)
        self.told(((0, 2), (0, 2)), first_few, 4, 2, 2)
        self.told([0, 4, 0], table, 2, 1, 1)
        self.told(1, least_many, 2, 1, 1)
        self.told(((0,), (0,)), first_few, 2, 1, 1)
        self.told(((0, 1), (0, 1, 2)), first_few, 7, 2, 3)
        self.told(4, least_many, 7, 2, 3)
        self.told(((0, 1, 4, 5), (0, 4)), first_few, 8, 4, 2)
        self.told(((0, 2), (0, 2, 4, 6)), first_few, 8, 2, 4)

    def test_all_sizes_of_small_rings(self):
        for ring in range(2, 6):
            for a in range(1, ring + 1):
                for b in range(1, ring + 1):
                    self.check_sizes(ring, a, b)

    def test_some_sizes_of_greater_rings(self):
        for ring, a, b in [(6, 1, 1), (6, 2, 3), (6, 3, 3), (6, 3, 2), (6, 6, 6), (6, 1, 5), (6, 4, 2),
                           (7, 1, 7), (7, 2, 2), (7, 3, 4), (7, 6, 2), (7, 7, 1), (8, 1, 1), (8, 2, 4), (8, 4, 2),
                           (8, 3, 2), (8, 4, 4), (8, 7, 1), (8, 8, 8), (8, 5, 3)]:
            self.check_sizes(ring, a, b)

    def test_all_numbers(self):
        for ring in range(2, 9):
            full = tuple(range(ring))
            self.told([0] * ring + [1], table, ring, ring, ring)
            self.told(ring, least_many, ring, ring, 1)
            self.told((full, (0,)), first_few, ring, ring, 1)
            self.told(((0,), full), first_few, ring, 1, ring)

    def test_lists_told_are_new(self):
        self.new_list(table, 5, 2, 2)
        self.new_list(table, 2, 1, 1)

    def test_no_rings(self):
        for ring in WRONG_RINGS:
            for call in OF_PAIRS:
                self.refused(NoRing, call, ring, 1, 1)
                self.refused(NoRing, call, ring, None, -1)

    def test_rings_that_are_too_great(self):
        for ring in range(9, 25):
            for call in OF_PAIRS:
                for a, b in ((1, 1), (ring, ring), (0, 1), (1, 0), (-1, ring + 1), (None, True), ("1", ())):
                    error = self.refused(TooGreat, call, ring, a, b)
                    self.assertEqual(repr((error.many, error.most)), repr((ring, 8)))

    def test_no_sizes(self):
        for ring in (2, 5, 8):
            for call in OF_PAIRS:
                for wrong in (0, *wrong_sizes(ring)):
                    self.refused(NoNumber, call, ring, wrong, 1)
                    self.refused(NoNumber, call, ring, ring, wrong)
                    self.refused(NoNumber, call, ring, wrong, wrong)


class KindsTest(Checks, unittest.TestCase):

    def test_ordinary(self):
        self.told([(0, 1), (0, 2), (0, 3)], kinds, 6, 2)
        self.told(3, kinds_many, 6, 2)
        self.told([(0, 1, 2), (0, 1, 3), (0, 1, 4), (0, 2, 4)], kinds, 6, 3)
        self.told(4, kinds_many, 6, 3)
        self.told([(0,)], kinds, 2, 1)
        self.told(80, kinds_many, 12, 6)

    def test_all_sizes(self):
        for ring in range(2, 13):
            for a in range(ring + 1):
                wanted = least_ones(ring, a)
                self.told(len(wanted), kinds_many, ring, a)
                self.told(wanted, kinds, ring, a)

    def test_none_and_all(self):
        for ring in range(2, 13):
            self.told(1, kinds_many, ring, 0)
            self.told(1, kinds_many, ring, ring)
            self.told([()], kinds, ring, 0)
            self.told([tuple(range(ring))], kinds, ring, ring)
            self.told([(0,)], kinds, ring, 1)

    def test_more_than_the_most(self):
        # Of these rings there are at most 80 of a size, so that more than 100 are seen with a lesser bound alone.
        self.assertEqual(tables.MOST_KINDS, 100)
        self.assertEqual(max(kinds_many(ring, a) for ring in range(2, 13) for a in range(ring + 1)), 80)
        with mock.patch.object(tables, "MOST_KINDS", 79):
            error = self.refused(TooGreat, kinds, 12, 6)
            self.assertEqual((error.many, error.most), (80, 79))
            self.refused(NoNumber, kinds, 12, 13)
            self.told(80, kinds_many, 12, 6)
            self.assertEqual(len(kinds(12, 5)), 66)
        with mock.patch.object(tables, "MOST_KINDS", 80):
            self.assertEqual(len(kinds(12, 6)), 80)

    def test_lists_told_are_new(self):
        self.new_list(kinds, 6, 2)
        self.new_list(kinds, 12, 0)

    def test_no_rings(self):
        for ring in WRONG_RINGS:
            for call in OF_KINDS:
                self.refused(NoRing, call, ring, 1)
                self.refused(NoRing, call, ring, None)

    def test_rings_that_are_too_great(self):
        for ring in range(13, 25):
            for call in OF_KINDS:
                for a in (0, 1, ring, -1, ring + 1, None, True, "1"):
                    error = self.refused(TooGreat, call, ring, a)
                    self.assertEqual(repr((error.many, error.most)), repr((ring, 12)))

    def test_no_sizes(self):
        for ring in (2, 5, 9, 12):
            for call in OF_KINDS:
                for wrong in wrong_sizes(ring):
                    self.refused(NoNumber, call, ring, wrong)
