"""5.1: steps_of."""

import unittest
from itertools import permutations

from tests.samples import RINGS, WRONG_RINGS, WRONG_SETS_OF_5, Checks, all_sets, many_sets
from twosetsums.errors import NoRing, NoSet
from twosetsums.steps import steps_of


def row(ring, first, d, many):
    """That many numbers from first on by d, in their order."""
    numbers = [first]
    while len(numbers) < many:
        numbers.append((numbers[-1] + d) % ring)
    return numbers


def steps_by_orders(ring, some):
    """The steps of a set, told by all orders of its numbers."""
    if len(some) < 2:
        return ()
    found = set()
    for order in permutations(some):
        for d in range(1, ring):
            if 2 * d <= ring and all((a + d) % ring == b for a, b in zip(order, order[1:])):
                found.add(d)
    return tuple(sorted(found))


def steps_by_rows(ring, some):
    """The steps of a set, told by all rows of as many numbers."""
    return tuple(d for d in range(1, ring) if 2 * d <= ring and len(some) > 1
                 and any(sorted(row(ring, first, d, len(some))) == list(some) for first in range(ring)))


class StepsTest(Checks, unittest.TestCase):

    def test_ordinary(self):
        self.told((1,), steps_of, 7, (2, 3, 4))
        self.told((2,), steps_of, 7, (0, 2, 5))
        self.told((3,), steps_of, 7, (1, 4, 5))
        self.told((), steps_of, 7, (0, 1, 3))
        self.told((1,), steps_of, 24, (0, 1, 22, 23))
        self.told((5,), steps_of, 24, (1, 6, 20))

    def test_none_and_one_number(self):
        for ring in RINGS:
            self.told((), steps_of, ring, ())
            for number in range(ring):
                self.told((), steps_of, ring, (number,))

    def test_two_numbers_have_the_way_between_them(self):
        self.told((1,), steps_of, 2, (0, 1))
        self.told((1,), steps_of, 3, (0, 2))
        for ring in RINGS:
            for a in range(ring):
                for b in range(a + 1, ring):
                    self.told((min(b - a, ring - b + a),), steps_of, ring, (a, b))

    def test_half_of_the_ring(self):
        for ring in range(2, 25, 2):
            for number in range(ring // 2):
                self.told((ring // 2,), steps_of, ring, (number, number + ring // 2))

    def test_all_numbers_and_all_but_one(self):
        self.told((1,), steps_of, 2, (0, 1))
        self.told((1,), steps_of, 3, (0, 1, 2))
        self.told((1, 5, 7, 11), steps_of, 24, tuple(range(24)))
        self.told((1, 5, 7, 11), steps_of, 24, tuple(range(23)))
        for ring in RINGS:
            full = tuple(range(ring))
            # A step goes through all numbers where it has no number but 1 in common with the ring.
            free = tuple(d for d in range(1, ring // 2 + 1)
                         if all(ring % h or d % h for h in range(2, ring + 1)))
            self.told(free, steps_of, ring, full)
            if ring > 2:
                for lost in full:
                    self.told(free, steps_of, ring, full[:lost] + full[lost + 1:])

    def test_steps_that_have_a_number_in_common_with_the_ring(self):
        self.told((2,), steps_of, 6, (0, 2, 4))
        self.told((8,), steps_of, 24, (3, 11, 19))
        self.told((6,), steps_of, 24, (0, 6, 12))
        self.told((6,), steps_of, 24, (0, 6, 12, 18))
        self.told((2, 10), steps_of, 24, tuple(range(0, 24, 2)))
        # Numbers that come again make no longer row.
        self.told((), steps_of, 6, (0, 1, 2, 4))

    def test_rows_by_each_step(self):
        for ring in RINGS:
            for d in range(1, ring // 2 + 1):
                for many in range(2, ring + 1):
                    some = tuple(sorted(set(row(ring, ring // 3, d, many))))
                    if len(some) == many:
                        self.assertIn(d, steps_of(ring, some))
                        self.told(steps_by_rows(ring, some), steps_of, ring, some)

    def test_all_orders_of_small_rings(self):
        for ring in range(2, 7):
            for some in all_sets(ring):
                self.told(steps_by_orders(ring, some), steps_of, ring, some)

    def test_all_rows_of_each_ring(self):
        for ring in RINGS:
            for some in all_sets(ring) if ring < 9 else many_sets(ring):
                self.told(steps_by_rows(ring, some), steps_of, ring, some)

    def test_refusals(self):
        for some in WRONG_SETS_OF_5:
            self.refused(NoSet, steps_of, 5, some)
        for ring in WRONG_RINGS:
            for some in [(), (0,), *WRONG_SETS_OF_5]:
                self.refused(NoRing, steps_of, ring, some)

    def test_by_names(self):
        self.told((2,), steps_of, some=(0, 2, 4), ring=7)
        self.refused(NoSet, steps_of, some=[0, 2, 4], ring=7)
        self.refused(NoRing, steps_of, some=[0, 2, 4], ring=25)
