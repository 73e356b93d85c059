"""2.1: sums, differences, unlike, lacking."""

import unittest

from tests.samples import RINGS, WRONG_RINGS, WRONG_SETS_OF_5, Checks, all_sets, some_sets
from twosetsums.errors import NoRing, NoSet
from twosetsums.sums import differences, lacking, sums, unlike

OF_TWO = (sums, differences, lacking)


def is_sum(ring, one, other, c):
    """Whether c less a number of the one is, on the ring, in the other."""
    return any((c + ring - a) % ring in other for a in one)


def is_difference(ring, one, other, c):
    """Whether c and a number of the other together is, on the ring, in the one."""
    return any((c + b) % ring in one for b in other)


def is_unlike(ring, some, c):
    """Whether c is the rest of two numbers of the set at unlike places of it."""
    return any((some[i] + some[j]) % ring == c for i in range(len(some)) for j in range(i))


def those(ring, test):
    return tuple(c for c in range(ring) if test(c))


class SumsTest(Checks, unittest.TestCase):

    def check_pair(self, ring, one, other):
        found = those(ring, lambda c: is_sum(ring, one, other, c))
        self.told(found, sums, ring, one, other)
        self.told(those(ring, lambda c: c not in found), lacking, ring, one, other)
        self.told(those(ring, lambda c: is_difference(ring, one, other, c)), differences, ring, one, other)

    def test_ordinary(self):
        self.told((1, 2, 3), sums, 5, (0, 1), (1, 2))
        self.told((0, 4), lacking, 5, (0, 1), (1, 2))
        self.told((0, 3, 4), differences, 5, (0, 1), (1, 2))
        self.told((0, 1, 2), differences, 5, (1, 2), (0, 1))
        self.told((0, 1, 22, 23), sums, 24, (0, 1, 23), (0, 23))
        self.told((0,), sums, 2, (1,), (1,))
        self.told((1,), lacking, 2, (1,), (1,))
        self.told((1,), differences, 2, (0,), (1,))

    def test_all_pairs_of_small_rings(self):
        for ring in range(2, 6):
            for one in all_sets(ring):
                for other in all_sets(ring):
                    self.check_pair(ring, one, other)

    def test_each_ring(self):
        for ring in RINGS:
            for one in some_sets(ring):
                for other in some_sets(ring):
                    self.check_pair(ring, one, other)

    def test_none_and_all(self):
        for ring in RINGS:
            full = tuple(range(ring))
            for some in some_sets(ring):
                for call in (sums, differences):
                    self.told((), call, ring, some, ())
                    self.told((), call, ring, (), some)
                    self.told(full if some else (), call, ring, some, full)
                    self.told(full if some else (), call, ring, full, some)
                self.told(full, lacking, ring, some, ())
                self.told(full, lacking, ring, (), some)
                self.told(() if some else full, lacking, ring, some, full)

    def test_refusals(self):
        for call in OF_TWO:
            for wrong in WRONG_SETS_OF_5:
                self.refused(NoSet, call, 5, wrong, (0, 1))
                self.refused(NoSet, call, 5, (0, 1), wrong)
                self.refused(NoSet, call, 5, wrong, ())
                self.refused(NoSet, call, 5, (), wrong)
                self.refused(NoSet, call, 5, wrong, wrong)

    def test_no_ring_is_refused_ahead_of_all_else(self):
        for call in OF_TWO:
            for ring in WRONG_RINGS:
                for one in [(), (0,), [0], None, (1, 0)]:
                    for other in [(), (0,), "0", (True,)]:
                        self.refused(NoRing, call, ring, one, other)

    def test_by_names(self):
        self.told((1, 2, 3), sums, other=(1, 2), one=(0, 1), ring=5)
        self.told((0, 3, 4), differences, other=(1, 2), one=(0, 1), ring=5)
        self.told((0, 4), lacking, other=(1, 2), one=(0, 1), ring=5)
        for call in OF_TWO:
            self.refused(NoSet, call, other=[1], one=(0,), ring=5)
            self.refused(NoRing, call, other=[1], one=(0,), ring="5")


class UnlikeTest(Checks, unittest.TestCase):

    def test_ordinary(self):
        self.told((1, 2, 3), unlike, 5, (0, 1, 2))
        self.told((1,), unlike, 2, (0, 1))
        self.told((0,), unlike, 24, (1, 23))
        self.told((0, 1, 23), unlike, 24, (0, 1, 23))

    def test_fewer_than_two_numbers(self):
        for ring in RINGS:
            self.told((), unlike, ring, ())
            for number in range(ring):
                self.told((), unlike, ring, (number,))

    def test_all_sets_of_small_rings(self):
        for ring in range(2, 9):
            for some in all_sets(ring):
                self.told(those(ring, lambda c: is_unlike(ring, some, c)), unlike, ring, some)

    def test_each_ring(self):
        for ring in RINGS:
            for some in some_sets(ring):
                self.told(those(ring, lambda c: is_unlike(ring, some, c)), unlike, ring, some)

    def test_refusals(self):
        for some in WRONG_SETS_OF_5:
            self.refused(NoSet, unlike, 5, some)
        for ring in WRONG_RINGS:
            for some in [(), (0,), *WRONG_SETS_OF_5]:
                self.refused(NoRing, unlike, ring, some)

    def test_by_names(self):
        self.told((1,), unlike, some=(0, 1), ring=4)
        self.refused(NoSet, unlike, some=[0, 1], ring=4)
