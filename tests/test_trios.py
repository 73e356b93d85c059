"""7.1: is_free, third_for."""

import unittest

from tests.samples import (RINGS, WRONG_RINGS, WRONG_SETS_OF_5, Checks, all_sets, many_sets, rows_with_gaps,
                           some_sets)
from twosetsums.errors import NoRing, NoSet
from twosetsums.trios import is_free, third_for


def free_by_trios(ring, one, other, third):
    """Whether no three numbers, one of each, make 0, one turn or two."""
    return not any(a + b + c in (0, ring, 2 * ring) for a in one for b in other for c in third)


def third_by_numbers(ring, one, other):
    """All numbers of the ring that by themselves are free with both sets."""
    return tuple(c for c in range(ring) if free_by_trios(ring, one, other, (c,)))


class TriosTest(Checks, unittest.TestCase):

    def check_pair(self, ring, one, other):
        third = third_by_numbers(ring, one, other)
        self.told(third, third_for, ring, one, other)
        self.told(third, third_for, ring, other, one)
        self.told(True, is_free, ring, one, other, third)
        for more in range(ring):
            if more not in third:
                self.told(False, is_free, ring, one, other, tuple(sorted((*third, more))))

    def test_ordinary(self):
        self.told((0, 1, 2), third_for, 6, (0, 1), (1, 2))
        self.told(True, is_free, 6, (0, 1), (1, 2), (0, 1, 2))
        self.told(True, is_free, 6, (0, 1), (1, 2), (0, 2))
        self.told(False, is_free, 6, (0, 1), (1, 2), (2, 3))
        self.told(False, is_free, 6, (0, 1), (1, 2), (5,))
        self.told((0,), third_for, 2, (0,), (1,))
        self.told(False, is_free, 2, (1,), (0,), (1,))
        self.told(True, is_free, 2, (1,), (0,), (0,))
        self.told(tuple(range(0, 24, 2)), third_for, 24, (0, 2, 4), tuple(range(1, 24, 2)))
        # The sum of three numbers may be two turns, too.
        self.told(False, is_free, 24, (20,), (21,), (7,))
        self.told(False, is_free, 24, (0,), (0,), (0,))
        self.told(True, is_free, 24, (20,), (21,), (0, 6, 8))

    def test_all_trios_of_small_rings(self):
        for ring in range(2, 5):
            for one in all_sets(ring):
                for other in all_sets(ring):
                    third_most = third_for(ring, one, other)
                    for third in all_sets(ring):
                        wanted = free_by_trios(ring, one, other, third)
                        self.told(wanted, is_free, ring, one, other, third)
                        # The greatest third one: just its parts are free with both.
                        self.assertEqual(wanted, set(third) <= set(third_most))

    def test_all_pairs_of_a_ring(self):
        for one in all_sets(6):
            for other in all_sets(6):
                self.told(third_by_numbers(6, one, other), third_for, 6, one, other)

    def test_each_ring(self):
        for ring in RINGS:
            for one in some_sets(ring):
                for other in some_sets(ring)[::2]:
                    self.check_pair(ring, one, other)

    def test_whole_parts_and_rows(self):
        for ring in (12, 23, 24):
            told = [some for some in (*many_sets(ring), *rows_with_gaps(ring)) if len(some) <= 12]
            for at, one in enumerate(told):
                self.check_pair(ring, one, told[at // 2])

    def test_none_and_all(self):
        for ring in RINGS:
            full = tuple(range(ring))
            self.told(full, third_for, ring, (), ())
            self.told(full, third_for, ring, full, ())
            self.told((), third_for, ring, full, (ring - 1,))
            self.told(True, is_free, ring, (), full, full)
            self.told(True, is_free, ring, full, (), full)
            self.told(True, is_free, ring, full, full, ())
            self.told(True, is_free, ring, (), (), ())
            self.told(False, is_free, ring, full, full, (1,))

    def test_single_numbers(self):
        for ring in RINGS:
            for a in range(ring):
                b = a * a % ring
                wanted = tuple(c for c in range(ring) if (a + b + c) % ring)
                self.told(wanted, third_for, ring, (a,), (b,))
                for c in range(ring):
                    self.told(c in wanted, is_free, ring, (a,), (b,), (c,))

    def test_no_rings(self):
        for ring in WRONG_RINGS:
            self.refused(NoRing, third_for, ring, (0,), (1,))
            self.refused(NoRing, third_for, ring, [0], None)
            self.refused(NoRing, is_free, ring, (0,), (1,), ())
            self.refused(NoRing, is_free, ring, [0], None, 3)

    def test_no_sets(self):
        for wrong in WRONG_SETS_OF_5:
            self.refused(NoSet, third_for, 5, wrong, (0, 1))
            self.refused(NoSet, third_for, 5, (0, 1), wrong)
            self.refused(NoSet, third_for, 5, (), wrong)
            self.refused(NoSet, third_for, 5, wrong, wrong)
            for right in ((), (0, 1), (0, 1, 2, 3, 4)):
                self.refused(NoSet, is_free, 5, wrong, right, right)
                self.refused(NoSet, is_free, 5, right, wrong, right)
                self.refused(NoSet, is_free, 5, right, right, wrong)
