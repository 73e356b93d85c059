"""3.1 and 3.2: keepers, whole_parts, broken_parts, rests_by."""

import unittest

from tests.samples import (FAR, RINGS, WRONG_RINGS, WRONG_SETS_OF_5, WRONG_WHOLES, Checks, all_sets, many_sets,
                           parting)
from twosetsums.errors import NoNumber, NoRing, NoSet
from twosetsums.keeping import broken_parts, keepers, rests_by, whole_parts
from twosetsums.sets import is_set

BY_PARTS = (whole_parts, broken_parts, rests_by)


def keeps(ring, some, number):
    """Whether each number of the ring is in the set just where it is, the number added, in it too."""
    return all((place in some) == ((place + number) % ring in some) for place in range(ring))


class KeepersTest(Checks, unittest.TestCase):

    def test_ordinary(self):
        self.told((0,), keepers, 5, (0, 1))
        self.told((0, 2, 4), keepers, 6, (1, 3, 5))
        self.told((0, 3), keepers, 6, (0, 1, 3, 4))
        self.told((0,), keepers, 2, (1,))
        self.told((0, 12), keepers, 24, (5, 17))
        self.told((0, 8, 16), keepers, 24, (1, 2, 9, 10, 17, 18))

    def test_none_and_all(self):
        for ring in RINGS:
            full = tuple(range(ring))
            self.told(full, keepers, ring, ())
            self.told(full, keepers, ring, full)
            self.told((0,), keepers, ring, (ring - 1,))
            self.told((0,), keepers, ring, full[:-1])

    def check_set(self, ring, some):
        found = tuple(number for number in range(ring) if keeps(ring, some, number))
        self.told(found, keepers, ring, some)
        # So they are all multiples of the least above 0, or 0 alone.
        least = found[1] if len(found) > 1 else 0
        self.assertEqual(set(keepers(ring, some)), {least * times % ring for times in range(ring)})

    def test_all_sets_of_small_rings(self):
        for ring in range(2, 9):
            for some in all_sets(ring):
                self.check_set(ring, some)

    def test_each_ring(self):
        for ring in RINGS:
            for some in many_sets(ring):
                self.check_set(ring, some)

    def test_refusals(self):
        for some in WRONG_SETS_OF_5:
            self.refused(NoSet, keepers, 5, some)
        for ring in WRONG_RINGS:
            for some in [(), (0,), *WRONG_SETS_OF_5]:
                self.refused(NoRing, keepers, ring, some)

    def test_by_names(self):
        self.told((0, 2), keepers, some=(1, 3), ring=4)
        self.refused(NoSet, keepers, some=[1, 3], ring=4)


class PartsTest(Checks, unittest.TestCase):

    def check_set(self, ring, some, h):
        whole, broken, hit = [], [], []
        for rest in range(h):
            part = [number for number in range(ring) if (number - rest) % h == 0]
            inside = [number in some for number in part]
            if all(inside):
                whole.append(rest)
            elif any(inside):
                broken.append(rest)
            if any(inside):
                hit.append(rest)
        self.told(tuple(whole), whole_parts, ring, some, h)
        self.told(tuple(broken), broken_parts, ring, some, h)
        self.told(tuple(hit), rests_by, ring, some, h)
        self.assertTrue(is_set(h, rests_by(ring, some, h)))

    def test_ordinary(self):
        some = (0, 1, 2, 4)
        self.told((0,), whole_parts, 6, some, 2)
        self.told((1,), broken_parts, 6, some, 2)
        self.told((0, 1), rests_by, 6, some, 2)
        self.told((1,), whole_parts, 6, some, 3)
        self.told((0, 2), broken_parts, 6, some, 3)
        self.told((0, 1, 2), rests_by, 6, some, 3)
        self.told((), broken_parts, 24, (3, 11, 19), 8)
        self.told((3,), whole_parts, 24, (3, 11, 19), 8)
        self.told((3,), rests_by, 24, (3, 11, 19), 8)

    def test_by_the_ring_itself_none_is_broken(self):
        for ring in RINGS:
            for some in many_sets(ring):
                self.told(some, whole_parts, ring, some, ring)
                self.told((), broken_parts, ring, some, ring)
                self.told(some, rests_by, ring, some, ring)

    def test_none_and_all(self):
        for ring in RINGS:
            for h in parting(ring):
                for call in BY_PARTS:
                    self.told((), call, ring, (), h)
                full = tuple(range(ring))
                self.told(tuple(range(h)), whole_parts, ring, full, h)
                self.told((), broken_parts, ring, full, h)
                self.told(tuple(range(h)), rests_by, ring, full, h)

    def test_all_sets_of_small_rings(self):
        for ring in (2, 3, 4, 6, 8):
            for some in all_sets(ring):
                for h in parting(ring):
                    self.check_set(ring, some, h)

    def test_each_ring(self):
        for ring in RINGS:
            for some in many_sets(ring):
                for h in parting(ring):
                    self.check_set(ring, some, h)

    def test_no_number(self):
        for call in BY_PARTS:
            for ring in RINGS:
                for h in [*range(-ring, 2), *range(2, 2 * ring + 1), FAR, -FAR, *WRONG_WHOLES]:
                    if isinstance(h, bool) or h not in parting(ring):
                        self.refused(NoNumber, call, ring, (), h)
                        self.refused(NoNumber, call, ring, (0, 1), h)

    def test_no_set_is_refused_ahead_of_no_number(self):
        for call in BY_PARTS:
            for some in WRONG_SETS_OF_5:
                for h in [5, 1, 2, 6, True, None, "5", (5,)]:
                    self.refused(NoSet, call, 5, some, h)

    def test_no_ring_is_refused_ahead_of_all_else(self):
        for call in BY_PARTS:
            for ring in WRONG_RINGS:
                for some in [(), (0,), [0], None, (1, 0)]:
                    for h in [5, 1, None, True, "3"]:
                        self.refused(NoRing, call, ring, some, h)

    def test_by_names(self):
        for call, wanted in [(whole_parts, (0,)), (broken_parts, (1,)), (rests_by, (0, 1))]:
            self.told(wanted, call, h=2, some=(0, 2, 3), ring=4)
            self.refused(NoNumber, call, h=3, some=(0, 2, 3), ring=4)
            self.refused(NoSet, call, h=3, some=(0, 2, 2), ring=4)
