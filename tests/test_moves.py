"""1.2 and 1.3: moved, stretched, least_moved, move_to."""

import unittest

from tests.samples import FAR, RINGS, WRONG_RINGS, WRONG_SETS_OF_5, WRONG_WHOLES, Checks, all_sets, some_sets
from twosetsums.errors import NoNumber, NoRing, NoSet
from twosetsums.moves import least_moved, move_to, moved, stretched


def turned(ring, some, number):
    """The set moved, told place by place: c is in it where c less the number was in the set."""
    return tuple(c for c in range(ring) if any((c - number - a) % ring == 0 for a in some))


class MovedTest(Checks, unittest.TestCase):

    def test_ordinary(self):
        self.told((0, 1, 3), moved, 5, (1, 3, 4), 2)
        self.told((0,), moved, 2, (1,), 1)
        self.told((0, 1), moved, 24, (22, 23), 2)

    def test_each_small_set_by_numbers_all_round(self):
        for ring in range(2, 7):
            for some in all_sets(ring):
                for number in range(-2 * ring, 2 * ring + 1):
                    self.told(turned(ring, some, number), moved, ring, some, number)

    def test_great_rings_and_far_numbers(self):
        for ring in RINGS:
            for some in some_sets(ring):
                for number in [0, 1, -1, ring, -ring, FAR, -FAR, FAR * ring]:
                    self.told(turned(ring, some, number), moved, ring, some, number)

    def test_none_and_all_stay(self):
        for ring in RINGS:
            self.told((), moved, ring, (), 7)
            self.told(tuple(range(ring)), moved, ring, tuple(range(ring)), -7)


class StretchedTest(Checks, unittest.TestCase):

    def test_ordinary(self):
        self.told((1, 2, 4), stretched, 5, (1, 2, 3), 2)
        self.told((0, 2), stretched, 4, (0, 1, 2, 3), 2)
        self.told((0,), stretched, 2, (0, 1), 2)
        self.told((1, 23), stretched, 24, (1, 23), -1)

    def test_by_nought_and_by_one(self):
        for ring in RINGS:
            for some in some_sets(ring):
                self.told((0,) if some else (), stretched, ring, some, 0)
                self.told((0,) if some else (), stretched, ring, some, -ring)
                self.told(some, stretched, ring, some, 1)
                self.told(some, stretched, ring, some, ring + 1)

    def test_each_small_set_as_sums_of_one_number(self):
        for ring in range(2, 7):
            for some in all_sets(ring):
                for number in range(2 * ring + 1):
                    hit = {sum([a] * number) % ring for a in some}
                    self.told(tuple(sorted(hit)), stretched, ring, some, number)
                    back = {(ring - c) % ring for c in hit}
                    self.told(tuple(sorted(back)), stretched, ring, some, -number)

    def test_far_numbers(self):
        for ring in RINGS:
            for some in some_sets(ring):
                self.told(stretched(ring, some, FAR % ring), stretched, ring, some, FAR)
                self.told(stretched(ring, some, -FAR % ring), stretched, ring, some, -FAR)


class BothTest(Checks, unittest.TestCase):

    def test_no_number(self):
        for call in (moved, stretched):
            for number in WRONG_WHOLES:
                for some in [(), (0, 2), (0, 1, 2, 3, 4)]:
                    self.refused(NoNumber, call, 5, some, number)

    def test_no_set_is_refused_ahead_of_no_number(self):
        for call in (moved, stretched):
            for some in WRONG_SETS_OF_5:
                for number in [0, 1, *WRONG_WHOLES]:
                    self.refused(NoSet, call, 5, some, number)

    def test_no_ring_is_refused_ahead_of_all_else(self):
        for call in (moved, stretched):
            for ring in WRONG_RINGS:
                for some in [(), (0,), [0], None, (1, 0)]:
                    for number in [0, None, True, "3"]:
                        self.refused(NoRing, call, ring, some, number)

    def test_by_names(self):
        self.told((0, 3), moved, number=3, some=(0, 2), ring=5)
        self.told((0, 1), stretched, number=3, some=(0, 2), ring=5)
        for call in (moved, stretched):
            self.refused(NoNumber, call, number=None, some=(0, 2), ring=5)
            self.refused(NoSet, call, number=None, some=(2, 0), ring=5)
            self.refused(NoRing, call, number=None, some=(2, 0), ring=1)


class LeastMovedTest(Checks, unittest.TestCase):

    def test_ordinary(self):
        self.told((0, 1, 3), least_moved, 5, (1, 2, 4))
        self.told((0, 1), least_moved, 24, (0, 23))
        self.told((0, 1, 2, 12), least_moved, 24, (3, 15, 16, 17))
        self.told((0,), least_moved, 2, (1,))

    def test_none_and_all(self):
        for ring in RINGS:
            self.told((), least_moved, ring, ())
            self.told(tuple(range(ring)), least_moved, ring, tuple(range(ring)))

    def test_it_is_alike_and_none_alike_is_less(self):
        for ring in range(2, 8):
            for some in all_sets(ring):
                alike = [turned(ring, some, number) for number in range(ring)]
                self.told(sorted(alike)[0], least_moved, ring, some)

    def test_great_rings(self):
        for ring in RINGS:
            for some in some_sets(ring):
                least = sorted(turned(ring, some, number) for number in range(ring))[0]
                for number in range(ring):
                    self.told(least, least_moved, ring, turned(ring, some, number))

    def test_refusals(self):
        for some in WRONG_SETS_OF_5:
            self.refused(NoSet, least_moved, 5, some)
        for ring in WRONG_RINGS:
            for some in [(), (0,), *WRONG_SETS_OF_5]:
                self.refused(NoRing, least_moved, ring, some)

    def test_by_names(self):
        self.told((0, 2), least_moved, some=(1, 4), ring=5)
        self.refused(NoSet, least_moved, some=(4, 1), ring=5)


class MoveToTest(Checks, unittest.TestCase):

    def test_ordinary(self):
        self.told(2, move_to, 5, (1, 3, 4), (0, 1, 3))
        self.told(3, move_to, 5, (0, 1, 3), (1, 3, 4))
        self.told(None, move_to, 5, (0, 1), (0, 2))
        self.told(1, move_to, 2, (0,), (1,))
        self.told(23, move_to, 24, (0, 1), (0, 23))

    def test_none_and_all(self):
        for ring in RINGS:
            full = tuple(range(ring))
            self.told(0, move_to, ring, (), ())
            self.told(0, move_to, ring, full, full)
            self.told(None, move_to, ring, (), full)
            self.told(None, move_to, ring, full, ())

    def test_the_least_of_several(self):
        self.told(0, move_to, 24, (0, 12), (0, 12))
        self.told(5, move_to, 24, (0, 12), (5, 17))
        self.told(1, move_to, 24, tuple(range(0, 24, 2)), tuple(range(1, 24, 2)))

    def test_all_pairs_of_small_rings(self):
        for ring in range(2, 6):
            for one in all_sets(ring):
                for other in all_sets(ring):
                    found = [number for number in range(ring) if turned(ring, one, number) == other]
                    self.told(found[0] if found else None, move_to, ring, one, other)

    def test_refusals(self):
        for wrong in WRONG_SETS_OF_5:
            self.refused(NoSet, move_to, 5, wrong, (0, 1))
            self.refused(NoSet, move_to, 5, (0, 1), wrong)
            self.refused(NoSet, move_to, 5, (), wrong)
            self.refused(NoSet, move_to, 5, wrong, wrong)
            for ring in WRONG_RINGS:
                self.refused(NoRing, move_to, ring, wrong, (0,))
                self.refused(NoRing, move_to, ring, (0,), wrong)
        for ring in WRONG_RINGS:
            self.refused(NoRing, move_to, ring, (0,), (0,))

    def test_by_names(self):
        self.told(2, move_to, other=(0, 1, 3), one=(1, 3, 4), ring=5)
        self.refused(NoSet, move_to, other=None, one=(1, 3, 4), ring=5)
