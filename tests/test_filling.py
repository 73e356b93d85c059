"""7.2 and 7.3: filled, is_filled."""

import unittest

from tests.samples import (RINGS, WRONG_RINGS, WRONG_SETS_OF_5, Checks, all_sets, many_sets, rows_with_gaps,
                           some_sets)
from twosetsums.errors import NoRing, NoSet
from twosetsums.filling import filled, is_filled
from twosetsums.trios import third_for


def sums_by_pairs(ring, one, other):
    return {(a + b) % ring for a in one for b in other}


def fitting(ring, some, known):
    """All numbers of the ring but those that make, with a number of the set, one that is not known."""
    barred = {x for x in range(ring) for number in some for c in range(ring)
              if c not in known and (x + number - c) % ring == 0}
    return tuple(x for x in range(ring) if x not in barred)


def filled_by_bars(ring, one, other):
    known = sums_by_pairs(ring, one, other)
    first = fitting(ring, other, known)
    return (first, fitting(ring, first, known))


class FillingTest(Checks, unittest.TestCase):

    def check_pair(self, ring, one, other):
        wanted = filled_by_bars(ring, one, other)
        self.told(wanted, filled, ring, one, other)
        self.told(wanted == (one, other), is_filled, ring, one, other)
        first, second = filled(ring, one, other)
        known = sums_by_pairs(ring, one, other)
        self.assertEqual(sums_by_pairs(ring, first, second), known)
        self.assertLessEqual(set(one), set(first))
        self.assertLessEqual(set(other), set(second))
        self.told((first, second), filled, ring, first, second)
        self.told(True, is_filled, ring, first, second)
        third = third_for(ring, first, second)
        self.assertEqual(third_for(ring, first, third), second)
        self.assertEqual(third_for(ring, second, third), first)
        if 0 < len(known) < ring:
            self.assertLessEqual(len(first) + len(second) + len(third), 2 * ring)

    def test_ordinary(self):
        self.told(((0, 1, 2), (0, 1)), filled, 7, (0, 2), (0, 1))
        self.told(((0, 1, 2, 3), (0, 1)), filled, 7, (0, 1, 3), (0, 1))
        self.told(((0, 1, 3, 4), (0, 3)), filled, 7, (0, 1, 3), (0, 3))
        self.told(False, is_filled, 7, (0, 2), (0, 1))
        self.told(True, is_filled, 7, (0, 1, 2), (0, 1))
        self.told(((0,), (1,)), filled, 2, (0,), (1,))
        self.told(True, is_filled, 2, (0,), (1,))
        self.told(((0, 2, 4), (1, 3, 5)), filled, 6, (0,), (1, 3, 5))
        self.told(((0, 12), (1, 13)), filled, 24, (0,), (1, 13))
        self.told(((0, 1, 2), (0, 1, 2)), filled, 24, (0, 1, 2), (0, 2))
        self.told(False, is_filled, 24, (0, 1, 2), (0, 2))
        self.told(False, is_filled, 24, (0, 2), (0, 1, 2))

    def test_the_first_is_made_with_the_other_handed_in_and_the_second_with_the_first_told(self):
        # With (0, 1) as it was handed in, the second one would get 1 besides, and the first one then no 3.
        self.told(((0, 1, 3), (0, 2)), filled, 5, (0, 1), (0, 2))
        self.told(((0, 1, 2), (0, 1)), filled, 5, (0, 2), (0, 1))
        self.told(((0, 1, 3, 5), (0, 2, 4)), filled, 7, (0, 1), (0, 2, 4))
        self.told(((0, 1, 3), (0, 1, 3)), filled, 6, (0, 1), (0, 1, 3))

    def test_none_and_all(self):
        for ring in RINGS:
            full = tuple(range(ring))
            self.told((full, ()), filled, ring, (), ())
            self.told(((), full), filled, ring, (), (0,))
            self.told(((), full), filled, ring, (), full)
            self.told((full, ()), filled, ring, (ring - 1,), ())
            self.told((full, ()), filled, ring, full, ())
            self.told((full, full), filled, ring, full, (1,))
            self.told((full, full), filled, ring, (0,), full)
            self.told(False, is_filled, ring, (), ())
            self.told(False, is_filled, ring, (), (0,))
            self.told(False, is_filled, ring, (ring - 1,), ())
            self.told(False, is_filled, ring, full, (1,))
            self.told(True, is_filled, ring, (), full)
            self.told(True, is_filled, ring, full, ())
            self.told(True, is_filled, ring, full, full)

    def test_all_pairs_of_small_rings(self):
        for ring in range(2, 6):
            for one in all_sets(ring):
                for other in all_sets(ring):
                    self.check_pair(ring, one, other)

    def test_the_greatest_sets_without_new_sums(self):
        ring = 5
        for one in all_sets(ring):
            for other in all_sets(ring):
                known = sums_by_pairs(ring, one, other)
                first, second = filled(ring, one, other)
                for more in all_sets(ring):
                    fits = sums_by_pairs(ring, more, other) <= known
                    self.assertEqual(fits, set(more) <= set(first))
                    fits = sums_by_pairs(ring, first, more) <= known
                    self.assertEqual(fits, set(more) <= set(second))

    def test_each_ring(self):
        for ring in RINGS:
            told = some_sets(ring)
            for one in told[::2]:
                for other in told[1::2]:
                    self.check_pair(ring, one, other)
                    self.check_pair(ring, other, one)

    def test_single_numbers(self):
        for ring in RINGS:
            for a in range(ring):
                self.check_pair(ring, (a,), (a * 5 % ring,))

    def test_whole_parts_and_rows(self):
        for ring in (8, 12, 23, 24):
            told = [*many_sets(ring), *rows_with_gaps(ring)]
            for at, one in enumerate(told):
                self.check_pair(ring, one, told[-1 - at // 2])

    def test_no_rings(self):
        for ring in WRONG_RINGS:
            for call in (filled, is_filled):
                self.refused(NoRing, call, ring, (0,), (1,))
                self.refused(NoRing, call, ring, [0], None)

    def test_no_sets(self):
        for wrong in WRONG_SETS_OF_5:
            for call in (filled, is_filled):
                self.refused(NoSet, call, 5, wrong, (0, 1))
                self.refused(NoSet, call, 5, (0, 1), wrong)
                self.refused(NoSet, call, 5, (), wrong)
                self.refused(NoSet, call, 5, wrong, ())
                self.refused(NoSet, call, 5, wrong, wrong)
