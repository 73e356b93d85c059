"""8.1: sum_all, ends, choice."""

import unittest
from itertools import product

from tests.samples import (FAR, RINGS, WRONG_RINGS, WRONG_SETS_OF_5, WRONG_WHOLES, Checks, all_sets, deep, many_sets,
                           rows_with_gaps, some_sets, wrong_numbers)
from twosetsums.errors import NoList, NoNumber, NoRing
from twosetsums.several import choice, ends, sum_all

# None of these is a list of one to five things.
NO_LISTS = [
    (), ((0,),), ((0,), (1,)), (0, 1), None, True, False, 0, 1, -1, FAR, "", "none", "0 1", {}, {0: (0,)}, {0: 0},
    [], [(0,)] * 6, [()] * 6, [(0,), (1,), (2,), (0, 1), (0, 2), (0, 3)], [None] * 6, [0] * 6, [[]] * 6,
    [(7,), None, True, "", 3, {}], [(0,)] * 5 + [None], [None] + [(0,)] * 5, [(0,)] * 24,
]


def rests(ring, tuples):
    return tuple(sorted({sum(numbers) % ring for numbers in tuples}))


def first_by_tuples(ring, several, c):
    """The first tuple of all whose sum has the rest c."""
    return min((numbers for numbers in product(*several) if sum(numbers) % ring == c), default=None)


def reached(ring, several):
    """Which numbers of the ring are sums of one number of each, set by set."""
    found = {0}
    for some in several:
        found = {(a + b) % ring for a in found for b in some}
    return found


class SeveralTest(Checks, unittest.TestCase):

    def check_list(self, ring, several):
        wanted = rests(ring, product(*several))
        self.told(wanted, sum_all, ring, several)
        counts = [len(rests(ring, product(*several[:many]))) for many in range(1, len(several) + 1)]
        self.told(counts, ends, ring, several)
        for c in range(ring):
            self.told(first_by_tuples(ring, several, c), choice, ring, several, c)

    def check_great_list(self, ring, several):
        """As check_list, for lists with too many tuples to go through all."""
        found = reached(ring, several)
        self.assertEqual(self.at_once(sum_all, ring, several), tuple(sorted(found)))
        counts = [len(reached(ring, several[:many])) for many in range(1, len(several) + 1)]
        self.assertEqual(self.at_once(ends, ring, several), counts)
        for c in range(ring):
            told = self.at_once(choice, ring, several, c)
            if c not in found:
                self.assertIsNone(told)
                continue
            self.assertIs(type(told), tuple)
            self.assertEqual(len(told), len(several))
            self.assertEqual(sum(told) % ring, c)
            for at, some in enumerate(several):
                self.assertIn(told[at], some)
                behind = reached(ring, several[at + 1:])
                lesser = [a for a in some if a < told[at] and (c - sum(told[:at]) - a) % ring in behind]
                self.assertEqual(lesser, [], (several, c))

    def test_ordinary(self):
        several = [(0, 1), (0, 2), (3,)]
        self.told((3, 4, 5, 6), sum_all, 7, several)
        self.told([2, 4, 4], ends, 7, several)
        self.told((1, 0, 3), choice, 7, several, 4)
        self.told((0, 2, 3), choice, 7, several, 5)
        self.told(None, choice, 7, several, 0)
        self.told((0, 1), sum_all, 2, [(0, 1)])
        self.told([1, 1, 1, 1, 1], ends, 2, [(1,)] * 5)
        self.told((1, 1, 1, 1, 1), choice, 2, [(1,)] * 5, 1)
        self.told(None, choice, 2, [(1,)] * 5, 0)

    def test_the_order_of_the_sets_is_kept(self):
        self.told((5, 0), choice, 7, [(5, 6), (0, 1)], 5)
        self.told((0, 5), choice, 7, [(0, 1), (5, 6)], 5)
        self.told([1, 3], ends, 7, [(5,), (0, 1, 2)])
        self.told([3, 3], ends, 7, [(0, 1, 2), (5,)])

    def test_first_numbers_that_lead_to_none(self):
        self.told((4, 0), choice, 12, [(0, 1, 2, 3, 4), (0, 6)], 4)
        self.told((3, 2, 5), choice, 12, [(0, 1, 2, 3), (0, 1, 2), (5,)], 10)
        self.told((23, 0, 12), choice, 24, [tuple(range(13, 24)), (0,), (0, 12)], 11)
        # The second number goes beyond its first, too, and the sum makes turns.
        self.told((5, 7, 9), choice, 10, [(1, 5), (2, 7), (9,)], 1)

    def test_one_set(self):
        for ring in RINGS:
            for some in some_sets(ring):
                self.told(some, sum_all, ring, [some])
                self.told([len(some)], ends, ring, [some])
                for c in range(ring):
                    self.told((c,) if c in some else None, choice, ring, [some], c)

    def test_none_among_them(self):
        for ring in (2, 3, 12, 24):
            full = tuple(range(ring))
            for at in range(5):
                several = [full] * 5
                several[at] = ()
                self.told((), sum_all, ring, several)
                self.told([ring] * at + [0] * (5 - at), ends, ring, several)
                for c in range(ring):
                    self.told(None, choice, ring, several, c)
            self.told((), sum_all, ring, [()])
            self.told([0, 0], ends, ring, [(), ()])
            self.told(None, choice, ring, [()], 0)

    def test_all_lists_of_small_rings(self):
        for ring in (2, 3):
            for many in range(1, 4):
                for several in product(all_sets(ring), repeat=many):
                    self.check_list(ring, list(several))
        for several in product(all_sets(2), repeat=5):
            self.check_list(2, list(several))
        for several in product(all_sets(4), repeat=2):
            self.check_list(4, list(several))

    def test_each_ring(self):
        for ring in RINGS:
            told = [some for some in (*some_sets(ring), *rows_with_gaps(ring)) if 0 < len(some) <= 5]
            for many in range(1, 6):
                self.check_list(ring, [told[(at * at + many) % len(told)] for at in range(many)])

    def test_whole_parts(self):
        for ring in (6, 12, 24):
            told = [some for some in many_sets(ring) if some]
            for at in range(0, len(told), 3):
                self.check_list(ring, [told[at], told[-1 - at], told[at // 2]])

    def test_great_sets_at_once(self):
        even = tuple(range(0, 24, 2))
        odd = tuple(range(1, 24, 2))
        full = tuple(range(24))
        last = tuple(range(12, 24))
        self.check_great_list(24, [even] * 5)
        self.check_great_list(24, [odd] * 5)
        self.check_great_list(24, [full] * 5)
        self.check_great_list(24, [last] * 5)
        self.check_great_list(24, [last, even, odd, even, odd])
        self.check_great_list(24, [odd, full, even, last, tuple(range(1, 24))])
        self.check_great_list(23, [tuple(range(11, 23))] * 5)

    def test_what_is_handed_in_stays_and_lists_told_are_new(self):
        several = [(0, 1), (0, 2), (3,)]
        for call, more in ((sum_all, ()), (ends, ()), (choice, (4,))):
            call(7, several, *more)
            self.assertEqual(several, [(0, 1), (0, 2), (3,)])
        self.new_list(ends, 7, several)
        self.new_list(ends, 7, [(0, 1)])
        # What is done to the list behind a call changes nothing that was told.
        told = ends(7, several)
        several.clear()
        self.assertEqual(told, [2, 4, 4])

    def test_no_rings(self):
        for ring in WRONG_RINGS:
            for several in ([(0,), (1,)], None, [], [None]):
                self.refused(NoRing, sum_all, ring, several)
                self.refused(NoRing, ends, ring, several)
                self.refused(NoRing, choice, ring, several, 0)
                self.refused(NoRing, choice, ring, several, None)

    def refused_at(self, at, ring, several):
        for call, more in ((sum_all, ()), (ends, ()), (choice, (0,)), (choice, (None,)), (choice, (-1,)),
                           (choice, (ring,))):
            error = self.refused(NoList, call, ring, several, *more)
            self.assertEqual(repr(error.at), repr(at), several)

    def test_no_lists(self):
        for ring in (2, 5, 24):
            for wrong in (*NO_LISTS, deep(7)):
                if not isinstance(wrong, list) or not 1 <= len(wrong) <= 5:
                    self.refused_at(-1, ring, wrong)

    def test_things_in_it_that_are_no_sets(self):
        for wrong in WRONG_SETS_OF_5:
            for many in range(1, 6):
                for at in range(many):
                    several = [(), (0, 1), (0, 1, 2, 3, 4), (4,), (0,)][:many]
                    several[at] = wrong
                    self.refused_at(at, 5, several)
                    # The first of several that are none is told.
                    for behind in range(at + 1, many):
                        self.refused_at(at, 5, several[:behind] + [None] * (many - behind))

    def test_sets_of_another_ring(self):
        self.refused_at(1, 5, [(4,), (5,)])
        self.refused_at(0, 2, [(0, 1, 2)])
        self.refused_at(2, 23, [(22,), (0,), (23,), (24,)])
        self.told((23,), sum_all, 24, [(23,)])
        self.refused_at(0, 24, [(24,)])
        self.refused_at(0, 5, [(True,)])
        self.refused_at(1, 5, [(1,), (False, 1)])

    def test_no_numbers(self):
        for ring in (2, 5, 24):
            for wrong in (*wrong_numbers(ring), *WRONG_WHOLES):
                for several in ([(0, 1)], [()], [(0,), (1,), (), (0,), (1,)]):
                    self.refused(NoNumber, choice, ring, several, wrong)
