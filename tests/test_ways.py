"""2.2 and 2.3: ways, often, first_pair."""

import unittest

from tests.samples import (RINGS, WRONG_RINGS, WRONG_SETS_OF_5, WRONG_WHOLES, FAR, Checks, all_sets, many_sets,
                           some_sets, wrong_numbers)
from twosetsums.errors import NoNumber, NoRing, NoSet
from twosetsums.ways import first_pair, often, ways


def pairs_of(ring, one, other, c):
    """The pairs of all numbers of the ring, rising, that are pairs of both sets and have c as rest of their sum."""
    return [(a, b) for a in range(ring) for b in range(ring)
            if a in one and b in other and a + b in (c, c + ring)]


class WaysTest(Checks, unittest.TestCase):

    def check_pair(self, ring, one, other):
        found = [pairs_of(ring, one, other, c) for c in range(ring)]
        counts = [len(pairs) for pairs in found]
        self.told(counts, ways, ring, one, other)
        for c in range(ring):
            self.told(found[c][0] if found[c] else None, first_pair, ring, one, other, c)
        for t in range(1, ring + 1):
            self.told(tuple(c for c in range(ring) if counts[c] >= t), often, ring, one, other, t)

    def test_ordinary(self):
        self.told([0, 1, 2, 1, 0], ways, 5, (0, 1), (1, 2))
        self.told([1, 1], ways, 2, (0,), (0, 1))
        self.told([2, 1, 0, 1], ways, 4, (0, 3), (0, 1))
        self.told((2,), often, 5, (0, 1), (1, 2), 2)
        self.told((1, 2, 3), often, 5, (0, 1), (1, 2), 1)
        self.told((), often, 5, (0, 1), (1, 2), 3)
        self.told((0, 2), first_pair, 5, (0, 1), (1, 2), 2)
        self.told((1, 2), first_pair, 5, (0, 1), (1, 2), 3)
        self.told(None, first_pair, 5, (0, 1), (1, 2), 4)
        self.told((0, 0), first_pair, 4, (0, 3), (0, 1), 0)
        self.told((23, 2), first_pair, 24, (5, 23), (2, 3), 1)

    def test_all_pairs_of_small_rings(self):
        for ring in range(2, 5):
            for one in all_sets(ring):
                for other in all_sets(ring):
                    self.check_pair(ring, one, other)

    def test_each_ring(self):
        for ring in range(2, 13):
            for one in some_sets(ring):
                for other in some_sets(ring):
                    self.check_pair(ring, one, other)

    def test_the_greatest_ring(self):
        for one in [(), (23,), tuple(range(24)), (0, 1, 2, 12), tuple(range(1, 24, 3))]:
            for other in [(), (0,), tuple(range(24)), (3, 11, 23), tuple(range(0, 24, 4))]:
                self.check_pair(24, one, other)

    def test_none_and_all(self):
        for ring in RINGS:
            full = tuple(range(ring))
            for some in some_sets(ring):
                self.told([0] * ring, ways, ring, some, ())
                self.told([0] * ring, ways, ring, (), some)
                self.told([len(some)] * ring, ways, ring, some, full)
                self.told([len(some)] * ring, ways, ring, full, some)
            self.told(full, often, ring, full, full, ring)
            self.told(None, first_pair, ring, full, (), 0)
            self.told((0, ring - 1), first_pair, ring, full, full, ring - 1)

    def test_all_ways_together(self):
        for ring in RINGS:
            for one in many_sets(ring):
                for other in some_sets(ring):
                    self.assertEqual(sum(ways(ring, one, other)), len(one) * len(other))

    def test_more_numbers_together_than_the_ring(self):
        found = 0
        for ring in RINGS:
            for one in many_sets(ring):
                for other in many_sets(ring):
                    more = len(one) + len(other) - ring
                    if more > 0:
                        found += 1
                        self.assertGreaterEqual(min(ways(ring, one, other)), more)
                        self.assertEqual(often(ring, one, other, more), tuple(range(ring)))
        self.assertGreater(found, 1000)

    def test_the_list_told_is_new(self):
        self.new_list(ways, 5, (0, 1), (1, 2))
        self.new_list(ways, 24, (), (1, 2))


class RefusalsTest(Checks, unittest.TestCase):

    def test_no_number(self):
        for ring in (2, 5, 24):
            for one, other in [((), ()), ((0, 1), (0,)), (tuple(range(ring)), tuple(range(ring)))]:
                for t in [0, -1, ring + 1, -ring, FAR, -FAR, *WRONG_WHOLES]:
                    self.refused(NoNumber, often, ring, one, other, t)
                for c in wrong_numbers(ring):
                    self.refused(NoNumber, first_pair, ring, one, other, c)

    def test_no_set_is_refused_ahead_of_no_number(self):
        for wrong in WRONG_SETS_OF_5:
            self.refused(NoSet, ways, 5, wrong, (0, 1))
            self.refused(NoSet, ways, 5, (0, 1), wrong)
            self.refused(NoSet, ways, 5, (), wrong)
            self.refused(NoSet, ways, 5, wrong, wrong)
            for number in [1, 0, 5, 6, True, None, "1", (1,)]:
                for call in (often, first_pair):
                    self.refused(NoSet, call, 5, wrong, (0, 1), number)
                    self.refused(NoSet, call, 5, (0, 1), wrong, number)

    def test_no_ring_is_refused_ahead_of_all_else(self):
        for ring in WRONG_RINGS:
            for one in [(), (0,), [0], None, (1, 0)]:
                for other in [(), (0,), "0", (True,)]:
                    self.refused(NoRing, ways, ring, one, other)
                    for number in [1, 0, None, True, "1"]:
                        self.refused(NoRing, often, ring, one, other, number)
                        self.refused(NoRing, first_pair, ring, one, other, number)

    def test_by_names(self):
        self.told([0, 1, 2, 1, 0], ways, other=(1, 2), one=(0, 1), ring=5)
        self.told((2,), often, t=2, other=(1, 2), one=(0, 1), ring=5)
        self.told((0, 2), first_pair, c=2, other=(1, 2), one=(0, 1), ring=5)
        self.refused(NoNumber, often, t=0, other=(1, 2), one=(0, 1), ring=5)
        self.refused(NoNumber, first_pair, c=5, other=(1, 2), one=(0, 1), ring=5)
        self.refused(NoSet, first_pair, c=5, other=(2, 1), one=(0, 1), ring=5)
