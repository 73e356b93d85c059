"""1.1 and others of 1.2: rings, sets, is_set, set_of, others."""

import unittest

from tests.samples import (FAR, RINGS, WRONG_LISTS, WRONG_RINGS, WRONG_SETS_OF_5, Checks, all_sets, deep,
                           some_sets)
from twosetsums.errors import NoRing, NoSet
from twosetsums.sets import is_set, others, set_of


class IsSetTest(Checks, unittest.TestCase):

    def test_each_ring_from_2_to_24_is_taken(self):
        for ring in RINGS:
            for some in some_sets(ring):
                self.told(True, is_set, ring, some)

    def test_all_sets_of_small_rings(self):
        for ring in range(2, 8):
            for some in all_sets(ring):
                self.told(True, is_set, ring, some)

    def test_the_ring_bounds_its_numbers(self):
        for ring in RINGS:
            self.told(True, is_set, ring, (ring - 1,))
            self.told(False, is_set, ring, (ring,))
            self.told(False, is_set, ring, (0, ring))
            self.told(False, is_set, ring, tuple(range(ring + 1)))
            self.told(False, is_set, ring, (-1,))
            self.told(False, is_set, ring, (-1, 0))

    def test_what_is_no_set(self):
        for thing in WRONG_SETS_OF_5:
            self.told(False, is_set, 5, thing)

    def test_a_set_of_one_ring_need_not_be_one_of_another(self):
        self.told(True, is_set, 6, (0, 5))
        self.told(False, is_set, 5, (0, 5))

    def test_no_ring_is_refused_ahead_of_all_else(self):
        for ring in WRONG_RINGS:
            for thing in [(), (0,), None, [1], "0", (True,), deep(10)]:
                self.refused(NoRing, is_set, ring, thing)

    def test_by_names(self):
        self.told(True, is_set, ring=24, thing=(0, 23))
        self.told(False, is_set, thing=[0], ring=24)
        self.refused(NoRing, is_set, thing=(0,), ring=25)


class SetOfTest(Checks, unittest.TestCase):

    def test_ordinary_lists(self):
        self.told((0, 2, 4), set_of, 5, [4, 0, 2])
        self.told((0, 1), set_of, 2, [7, 8])
        self.told((1, 23), set_of, 24, [23, 1])
        self.told((3,), set_of, 10, [3])

    def test_none_and_all(self):
        for ring in RINGS:
            self.told((), set_of, ring, [])
            self.told(tuple(range(ring)), set_of, ring, list(range(ring)))
            self.told(tuple(range(ring)), set_of, ring, list(range(-1, -ring - 1, -1)))

    def test_numbers_twice_stand_once(self):
        self.told((1, 3), set_of, 5, [3, 1, 3, 1, 1])
        self.told((2,), set_of, 5, [2, 7, -3, 12])

    def test_numbers_beyond_the_ring_and_below_nought(self):
        self.told((4,), set_of, 5, [-1])
        self.told((0,), set_of, 5, [-5, 5, 0, 10])
        self.told((1, 4), set_of, 5, [-4, -6])
        for ring in RINGS:
            # 10 ** 30 is told by one rest of ten at a time, apart from Python's own long division.
            rest = 1
            for turn in range(30):
                rest = rest * 10 % ring
            self.told((rest,), set_of, ring, [FAR])
            self.told(((ring - rest) % ring,), set_of, ring, [-FAR])
            self.told(tuple(sorted({rest, (rest + 1) % ring})), set_of, ring, [FAR + 1, FAR])

    def test_what_is_no_list_of_whole_numbers(self):
        for things in WRONG_LISTS:
            self.refused(NoSet, set_of, 5, things)
            self.refused(NoSet, set_of, ring=24, things=things)

    def test_no_ring_is_refused_ahead_of_all_else(self):
        for ring in WRONG_RINGS:
            for things in [[], [0, 1], *WRONG_LISTS]:
                self.refused(NoRing, set_of, ring, things)

    def test_by_names(self):
        self.told((0, 1), set_of, things=[5, 6], ring=5)

    def test_the_set_told_does_not_hang_on_the_list(self):
        things = [9, 1]
        told = set_of(5, things)
        things.append(2)
        self.assertEqual(told, (1, 4))


class OthersTest(Checks, unittest.TestCase):

    def test_ordinary_sets(self):
        self.told((1, 3), others, 5, (0, 2, 4))
        self.told((0,), others, 2, (1,))
        self.told(tuple(range(1, 23)), others, 24, (0, 23))

    def test_none_and_all(self):
        for ring in RINGS:
            self.told(tuple(range(ring)), others, ring, ())
            self.told((), others, ring, tuple(range(ring)))

    def test_each_number_is_in_just_one_of_both(self):
        for ring in range(2, 8):
            for some in all_sets(ring):
                rest = others(ring, some)
                self.assertEqual(sorted(some + rest), list(range(ring)))
                self.told(some, others, ring, rest)

    def test_no_set(self):
        for some in WRONG_SETS_OF_5:
            self.refused(NoSet, others, 5, some)

    def test_no_ring_is_refused_ahead_of_all_else(self):
        for ring in WRONG_RINGS:
            for some in [(), (0,), *WRONG_SETS_OF_5]:
                self.refused(NoRing, others, ring, some)

    def test_by_names(self):
        self.told((1, 2), others, some=(0,), ring=3)
        self.refused(NoSet, others, some=[0], ring=3)
