"""3.3: nearly, split."""

import unittest

from tests.samples import (FAR, RINGS, WRONG_RINGS, WRONG_SETS_OF_5, WRONG_WHOLES, Checks, all_sets, many_sets,
                           parting, some_sets)
from twosetsums.errors import NoNumber, NoRing, NoSet
from twosetsums.nearness import nearly, split


def parted(ring, some, h):
    """The numbers of the set whose part is in it as a whole, and its other numbers with the rests of theirs."""
    whole = tuple(a for a in some if all(b in some for b in range(ring) if (a - b) % h == 0))
    left = tuple(a for a in some if a not in whole)
    return whole, left, {a % h for a in left}


class NearnessTest(Checks, unittest.TestCase):

    def check_set(self, ring, some):
        found = []
        for h in parting(ring):
            whole, left, rests = parted(ring, some, h)
            if h < ring and len(rests) <= 1:
                found.append(h)
                self.told((whole, left), split, ring, some, h)
            else:
                self.refused(NoNumber, split, ring, some, h)
        self.told(found, nearly, ring, some)

    def test_ordinary(self):
        self.told([2], nearly, 6, (0, 1, 2, 4))
        self.told(((0, 2, 4), (1,)), split, 6, (0, 1, 2, 4), 2)
        self.told([3], nearly, 6, (0, 3))
        self.told(((0, 3), ()), split, 6, (0, 3), 3)
        self.told([], nearly, 6, (0, 1, 5))
        self.told([2, 3, 4, 6, 8, 12], nearly, 24, (7,))
        self.told(((), (7,)), split, 24, (7,), 12)
        self.told([12], nearly, 24, (0, 1, 3, 12, 13))
        self.told(((0, 1, 12, 13), (3,)), split, 24, (0, 1, 3, 12, 13), 12)

    def test_none_and_all(self):
        for ring in RINGS:
            full = tuple(range(ring))
            for h in parting(ring)[:-1]:
                self.told(((), ()), split, ring, (), h)
                self.told((full, ()), split, ring, full, h)
            self.told(parting(ring)[:-1], nearly, ring, ())
            self.told(parting(ring)[:-1], nearly, ring, full)

    def test_a_prime_has_none(self):
        for ring in (2, 3, 5, 7, 23):
            for some in some_sets(ring):
                self.told([], nearly, ring, some)

    def test_all_sets_of_small_rings(self):
        for ring in range(2, 9):
            for some in all_sets(ring):
                self.check_set(ring, some)

    def test_each_ring(self):
        for ring in RINGS:
            for some in many_sets(ring):
                self.check_set(ring, some)

    def test_the_list_told_is_new(self):
        self.new_list(nearly, 6, (0, 3))
        self.new_list(nearly, 24, ())
        self.new_list(nearly, 5, (0, 1))

    def test_no_number(self):
        for ring in RINGS:
            for some in [(), (0,), tuple(range(ring))]:
                for h in [0, 1, -1, -2, ring, ring + 1, 2 * ring, FAR, -FAR, *WRONG_WHOLES, [2], "2", (2,)]:
                    self.refused(NoNumber, split, ring, some, h)
                for h in range(2, ring):
                    if h not in parting(ring):
                        self.refused(NoNumber, split, ring, some, h)

    def test_more_than_one_part_is_broken(self):
        self.refused(NoNumber, split, 6, (0, 1, 2, 4), 3)
        self.refused(NoNumber, split, 24, (0, 1), 2)
        self.refused(NoNumber, split, 4, (0, 1), 2)

    def test_no_set_is_refused_ahead_of_no_number(self):
        for wrong in WRONG_SETS_OF_5:
            self.refused(NoSet, nearly, 5, wrong)
            for h in [2, 5, 0, True, None, "2"]:
                self.refused(NoSet, split, 5, wrong, h)
        self.refused(NoSet, split, 6, (3, 0), 3)

    def test_no_ring_is_refused_ahead_of_all_else(self):
        for ring in WRONG_RINGS:
            for some in [(), (0,), *WRONG_SETS_OF_5]:
                self.refused(NoRing, nearly, ring, some)
                for h in [2, 0, None]:
                    self.refused(NoRing, split, ring, some, h)

    def test_by_names(self):
        self.told([3], nearly, some=(0, 3), ring=6)
        self.told(((0, 3), ()), split, h=3, some=(0, 3), ring=6)
        self.refused(NoNumber, split, h=6, some=(0, 3), ring=6)
        self.refused(NoSet, nearly, some=[0, 3], ring=6)
