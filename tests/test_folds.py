"""8.2 and 8.3: fold, growth, order, made_by."""

import unittest
from itertools import combinations_with_replacement

from tests.samples import (FAR, RINGS, WRONG_RINGS, WRONG_SETS_OF_5, WRONG_WHOLES, Checks, all_sets, many_sets,
                           rows_with_gaps)
from twosetsums.errors import Apart, NoNumber, NoRing, NoSet
from twosetsums.folds import fold, growth, made_by, order

MOST = 10 ** 9


def folds_till_again(ring, some):
    """The folds of a set from none on, one by one, till one comes again, and the place where that one stood."""
    found = [frozenset([0])]
    while True:
        more = frozenset((a + b) % ring for a in found[-1] for b in some)
        if more in found:
            return found, found.index(more)
        found.append(more)


def fold_at(found, again, k):
    """The fold of k: behind the place where they come again, one of those from there on."""
    if k >= len(found):
        k = again + (k - again) % (len(found) - again)
    return tuple(sorted(found[k]))


def growth_by_folds(found, again):
    """How many numbers the folds have, from 1 on, up to the first behind which none has more."""
    counts = [len(one) for one in (*found[1:], found[again])]
    return counts[:counts.index(max(counts)) + 1]


def order_by_folds(ring, found):
    return next((k for k in range(1, len(found)) if len(found[k]) == ring), None)


def made_by_steps(ring, some):
    """All numbers that are come to from 0 by going on by numbers of the set."""
    found, fresh = {0}, [0]
    while fresh:
        at = fresh.pop()
        for number in some:
            if (at + number) % ring not in found:
                found.add((at + number) % ring)
                fresh.append((at + number) % ring)
    return tuple(sorted(found))


class FoldsTest(Checks, unittest.TestCase):

    def check_set(self, ring, some):
        found, again = folds_till_again(ring, some)
        for k in (0, 1, 2, 3, ring - 1, ring, ring + 1, 1000, MOST - 2, MOST - 1, MOST):
            self.told(fold_at(found, again, k), fold, ring, some, k)
        self.told(order_by_folds(ring, found), order, ring, some)
        made = made_by_steps(ring, some)
        self.told(made, made_by, ring, some)
        self.assertIn(made, [tuple(range(0, ring, step)) for step in range(1, ring + 1) if ring % step == 0])
        if some:
            self.told(growth_by_folds(found, again), growth, ring, some)

    def test_ordinary(self):
        self.told((0, 1, 2, 3), fold, 7, (0, 1), 3)
        self.told((2, 3, 4), fold, 7, (1, 2), 2)
        self.told([2, 3, 4, 5, 6, 7], growth, 7, (0, 1))
        self.told(6, order, 7, (0, 1))
        self.told((0, 1, 2, 3, 4, 5, 6), made_by, 7, (3,))
        self.told([2, 3], growth, 6, (1, 3))
        self.told(None, order, 6, (1, 3))
        self.told((0, 1, 2, 3, 4, 5), made_by, 6, (1, 3))
        self.told((0, 2, 4), made_by, 6, (4,))
        self.told((0, 4, 8, 12, 16, 20), made_by, 24, (8, 12))
        self.told([3, 6, 7], growth, 7, (0, 1, 3))
        self.told(3, order, 7, (0, 1, 3))

    def test_folds_of_tuples(self):
        for ring in (2, 3, 5, 6, 8):
            for some in all_sets(ring):
                for k in range(1, 5):
                    tuples = combinations_with_replacement(some, k)
                    wanted = tuple(sorted({sum(numbers) % ring for numbers in tuples}))
                    self.told(wanted, fold, ring, some, k)

    def test_none_one_and_two(self):
        for ring in RINGS:
            for some in many_sets(ring):
                self.told((0,), fold, ring, some, 0)
                self.told(some, fold, ring, some, 1)
                twice = tuple(sorted({(a + b) % ring for a in some for b in some}))
                self.told(twice, fold, ring, some, 2)

    def test_the_empty_set(self):
        for ring in RINGS:
            self.told((0,), fold, ring, (), 0)
            for k in (1, 2, MOST - 1, MOST):
                self.told((), fold, ring, (), k)
            self.told(None, order, ring, ())
            self.told((0,), made_by, ring, ())

    def test_one_number(self):
        for ring in RINGS:
            for number in range(ring):
                for k in (0, 1, 2, 7, MOST - 1, MOST):
                    self.told((number * k % ring,), fold, ring, (number,), k)
                self.told([1], growth, ring, (number,))
                self.told(None, order, ring, (number,))
                self.told(tuple(sorted({number * k % ring for k in range(ring)})), made_by, ring, (number,))

    def test_all_numbers(self):
        for ring in RINGS:
            full = tuple(range(ring))
            self.told(full, fold, ring, full, MOST)
            self.told((0,), fold, ring, full, 0)
            self.told([ring], growth, ring, full)
            self.told(1, order, ring, full)
            self.told(full, made_by, ring, full)

    def test_all_sets_of_small_rings(self):
        for ring in range(2, 9):
            for some in all_sets(ring):
                self.check_set(ring, some)

    def test_each_ring(self):
        for ring in RINGS:
            for some in (*many_sets(ring), *rows_with_gaps(ring)):
                self.check_set(ring, some)

    def test_the_slowest_growth(self):
        for ring in RINGS:
            self.told(list(range(2, ring + 1)), growth, ring, (0, 1))
            self.told(ring - 1, order, ring, (ring - 2, ring - 1))

    def test_great_numbers_at_once(self):
        # All differences of these sets have a number in common with the ring, so their folds never come to rest.
        self.assertEqual(self.at_once(fold, 24, (1, 3), MOST), tuple(range(0, 24, 2)))
        self.assertEqual(self.at_once(fold, 24, (1, 3), MOST - 1), tuple(range(1, 24, 2)))
        self.assertEqual(self.at_once(fold, 24, (1, 9, 17), MOST), (0, 8, 16))
        self.assertEqual(self.at_once(fold, 24, (1, 9, 17), MOST - 3), (5, 13, 21))
        self.assertEqual(self.at_once(fold, 12, (5, 11), MOST - 1), (3, 9))
        self.assertEqual(self.at_once(fold, 24, (23,), MOST - 1), (9,))
        self.assertEqual(self.at_once(fold, 24, tuple(range(1, 24, 2)), MOST), tuple(range(0, 24, 2)))
        self.assertEqual(self.at_once(fold, 23, (), MOST), ())

    def test_lists_told_are_new(self):
        self.new_list(growth, 7, (0, 1))
        self.new_list(growth, 24, (5,))

    def test_no_rings(self):
        for ring in WRONG_RINGS:
            for some in ((0,), (), None, [0]):
                self.refused(NoRing, fold, ring, some, 1)
                self.refused(NoRing, fold, ring, some, None)
                self.refused(NoRing, growth, ring, some)
                self.refused(NoRing, order, ring, some)
                self.refused(NoRing, made_by, ring, some)

    def test_no_sets(self):
        for wrong in WRONG_SETS_OF_5:
            for k in (0, 1, MOST, -1, None, True):
                self.refused(NoSet, fold, 5, wrong, k)
            self.refused(NoSet, growth, 5, wrong)
            self.refused(NoSet, order, 5, wrong)
            self.refused(NoSet, made_by, 5, wrong)

    def test_no_numbers(self):
        for some in ((), (0,), (1, 3), (0, 1, 2, 3, 4)):
            for wrong in (-1, -2, MOST + 1, FAR, -FAR, *WRONG_WHOLES):
                self.refused(NoNumber, fold, 5, some, wrong)

    def test_growth_of_none_is_apart(self):
        for ring in RINGS:
            self.refused(Apart, growth, ring, ())
