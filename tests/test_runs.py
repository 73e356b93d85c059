"""6.1 to 6.3: runs_by, row_of, longest_run, gaps; and grown_many of 6.2."""

import unittest

from tests.samples import (FAR, RINGS, WRONG_RINGS, WRONG_SETS_OF_5, WRONG_WHOLES, Checks, all_sets, many_sets,
                           wrong_numbers)
from twosetsums.errors import NoNumber, NoRing, NoSet
from twosetsums.grown import grown_many
from twosetsums.runs import gaps, longest_run, row_of, runs_by
from twosetsums.sums import sums

OF_RUNS = (runs_by, longest_run, gaps)


def rounds(ring, d):
    """The rounds of the ring by d, each as its numbers in their order, from its least on."""
    told = []
    for first in range(ring):
        if not any(first in one for one in told):
            one = [first]
            while (one[-1] + d) % ring != first:
                one.append((one[-1] + d) % ring)
            told.append(one)
    return told


def runs_and_gaps(ring, some, d):
    """The runs of a set by d with the gap behind each, None for one that comes round; rising."""
    found = []
    for one in rounds(ring, d):
        marks = "".join("x" if number in some else "." for number in one)
        if "." not in marks:
            found.append((one[0], len(one), None))
        elif "x" in marks:
            # Turned so that it begins with a run and ends with a gap, the round falls into runs and gaps.
            turn = next(k for k in range(len(one)) if marks[k] == "x" and marks[k - 1] == ".")
            place = turn
            for piece in (marks[turn:] + marks[:turn]).replace(".x", ". x").split(" "):
                found.append((one[place % len(one)], piece.count("x"), piece.count(".")))
                place += len(piece)
    return sorted(found, key=lambda run: run[:2])


def grown_by_sums(ring, some, d, k):
    """How many numbers are a number of the set and less than k times d together."""
    return len({(a + d * times) % ring for a in some for times in range(k)})


class RunsTest(Checks, unittest.TestCase):

    def check_set(self, ring, some, d):
        found = runs_and_gaps(ring, some, d)
        self.told([run[:2] for run in found], runs_by, ring, some, d)
        self.told(max([run[1] for run in found], default=0), longest_run, ring, some, d)
        between = [run[2] for run in found if run[2] is not None]
        self.told(between, gaps, ring, some, d)
        # All numbers of the set are in just one run, and (0, d) adds one behind each that does not come round.
        self.assertEqual(sum(many for first, many in runs_by(ring, some, d)), len(some))
        self.assertEqual(len(sums(ring, some, tuple(sorted((0, d))))), len(some) + len(between))

    def test_ordinary(self):
        some = (0, 1, 4, 6)
        self.told([(4, 1), (6, 3)], runs_by, 7, some, 1)
        self.told([1, 2], gaps, 7, some, 1)
        self.told(3, longest_run, 7, some, 1)
        self.told([(0, 1), (4, 3)], runs_by, 7, some, 2)
        self.told([1, 2], gaps, 7, some, 2)
        self.told([(0, 1)], runs_by, 2, (0,), 1)
        self.told([1], gaps, 2, (0,), 1)
        self.told([(22, 4)], runs_by, 24, (0, 1, 22, 23), 1)
        self.told([20], gaps, 24, (0, 1, 22, 23), 1)
        self.told([(1, 4)], runs_by, 24, (0, 1, 22, 23), 23)

    def test_rounds_that_come_again(self):
        some = (0, 1, 3, 5)
        self.told([(0, 1), (1, 3)], runs_by, 6, some, 2)
        self.told([2], gaps, 6, some, 2)
        self.told(3, longest_run, 6, some, 2)
        self.told([(0, 2), (1, 1), (5, 1)], runs_by, 6, some, 3)
        self.told([1, 1], gaps, 6, some, 3)
        self.told([(3, 3), (4, 2)], runs_by, 24, (3, 4, 11, 12, 19), 8)
        self.told([1], gaps, 24, (3, 4, 11, 12, 19), 8)
        self.told([(3, 3), (12, 2)], runs_by, 24, (3, 4, 11, 12, 19), 16)

    def test_none_one_and_all(self):
        for ring in RINGS:
            full = tuple(range(ring))
            for d in range(1, ring):
                self.told([], runs_by, ring, (), d)
                self.told(0, longest_run, ring, (), d)
                self.told([], gaps, ring, (), d)
                around = rounds(ring, d)
                self.told([(ring - 1, 1)], runs_by, ring, (ring - 1,), d)
                self.told(1, longest_run, ring, (ring - 1,), d)
                self.told([len(around[0]) - 1], gaps, ring, (ring - 1,), d)
                self.told([(one[0], len(one)) for one in around], runs_by, ring, full, d)
                self.told(len(around[0]), longest_run, ring, full, d)
                self.told([], gaps, ring, full, d)

    def test_all_sets_of_small_rings(self):
        for ring in range(2, 7):
            for some in all_sets(ring):
                for d in range(1, ring):
                    self.check_set(ring, some, d)

    def test_each_ring(self):
        for ring in RINGS:
            for some in many_sets(ring):
                for d in range(1, ring):
                    self.check_set(ring, some, d)

    def test_lists_told_are_new(self):
        for call in (runs_by, gaps):
            self.new_list(call, 7, (0, 1, 4), 1)
            self.new_list(call, 6, (), 2)
            self.new_list(call, 6, (0, 1, 2, 3, 4, 5), 2)

    def test_no_number(self):
        for call in OF_RUNS:
            for ring in RINGS:
                for d in [0, *wrong_numbers(ring)]:
                    self.refused(NoNumber, call, ring, (), d)
                    self.refused(NoNumber, call, ring, (0, 1), d)

    def test_no_set_is_refused_ahead_of_no_number(self):
        for call in OF_RUNS:
            for some in WRONG_SETS_OF_5:
                for d in [1, 0, 5, -1, True, None, "1", (1,)]:
                    self.refused(NoSet, call, 5, some, d)

    def test_no_ring_is_refused_ahead_of_all_else(self):
        for call in OF_RUNS:
            for ring in WRONG_RINGS:
                for some in [(), (0,), [0], None, (1, 0)]:
                    for d in [1, 0, None, True, "3"]:
                        self.refused(NoRing, call, ring, some, d)

    def test_by_names(self):
        self.told([(4, 1), (6, 3)], runs_by, d=1, some=(0, 1, 4, 6), ring=7)
        self.told(3, longest_run, d=1, some=(0, 1, 4, 6), ring=7)
        self.told([1, 2], gaps, d=1, some=(0, 1, 4, 6), ring=7)
        for call in OF_RUNS:
            self.refused(NoNumber, call, d=0, some=(0, 1), ring=7)
            self.refused(NoSet, call, d=0, some=(1, 0), ring=7)


class RowOfTest(Checks, unittest.TestCase):

    def test_ordinary(self):
        self.told((1, 3, 5), row_of, 7, 1, 2, 3)
        self.told((0, 2, 5), row_of, 7, 5, 2, 3)
        self.told((0, 1), row_of, 2, 1, 1, 2)
        self.told((0, 1, 23), row_of, 24, 1, 23, 3)

    def test_rows_that_come_again(self):
        self.told((1, 3, 5), row_of, 6, 1, 2, 4)
        self.told((1, 3, 5), row_of, 6, 1, 2, 6)
        self.told((2, 14), row_of, 24, 14, 12, 24)

    def test_each_ring(self):
        for ring in RINGS:
            for d in range(1, ring):
                for first in range(0, ring, 3):
                    self.told((), row_of, ring, first, d, 0)
                    self.told((first,), row_of, ring, first, d, 1)
                    numbers = []
                    number = first
                    for many in range(1, ring + 1):
                        numbers.append(number)
                        number = number + d if number + d < ring else number + d - ring
                        wanted = tuple(c for c in range(ring) if c in numbers)
                        self.assertEqual(row_of(ring, first, d, many), wanted)
                    self.told(wanted, row_of, ring, first, d, ring)

    def test_no_number(self):
        for ring in (2, 6, 24):
            for wrong in wrong_numbers(ring):
                self.refused(NoNumber, row_of, ring, wrong, 1, 1)
                self.refused(NoNumber, row_of, ring, 0, wrong, 1)
                self.refused(NoNumber, row_of, ring, 0, wrong, 0)
                self.refused(NoNumber, row_of, ring, wrong, wrong, None)
            self.refused(NoNumber, row_of, ring, 0, 0, 1)
            self.refused(NoNumber, row_of, ring, 0, 0, 0)
            for many in [-1, ring + 1, FAR, -FAR, *WRONG_WHOLES]:
                self.refused(NoNumber, row_of, ring, 0, 1, many)
                self.refused(NoNumber, row_of, ring, ring, 0, many)

    def test_no_ring_is_refused_ahead_of_all_else(self):
        for ring in WRONG_RINGS:
            for first in [0, -1, None]:
                for d in [1, 0, True]:
                    for many in [0, -1, "1"]:
                        self.refused(NoRing, row_of, ring, first, d, many)

    def test_by_names(self):
        self.told((1, 3, 5), row_of, many=3, d=2, first=1, ring=7)
        self.refused(NoNumber, row_of, many=8, d=2, first=1, ring=7)
        self.refused(NoRing, row_of, many=8, d=2, first=1, ring=1)


class GrownTest(Checks, unittest.TestCase):

    def test_ordinary(self):
        self.told(3, grown_many, 7, (0, 1, 4), 1, 1)
        self.told(5, grown_many, 7, (0, 1, 4), 1, 2)
        self.told(7, grown_many, 7, (0, 1, 4), 1, 3)
        self.told(2, grown_many, 2, (1,), 1, 2)
        self.told(4, grown_many, 6, (0, 1, 3), 3, 6)
        self.told(24, grown_many, 24, (0, 12), 1, 12)
        self.told(22, grown_many, 24, (0, 12), 1, 11)

    def test_held_against_the_sums(self):
        for ring in RINGS:
            for some in many_sets(ring)[::1 if ring < 13 else 3]:
                for d in range(1, ring):
                    for k in range(1, ring + 1):
                        found = grown_many(ring, some, d, k)
                        self.assertEqual(found, grown_by_sums(ring, some, d, k), (ring, some, d, k))

    def test_all_sets_of_small_rings(self):
        for ring in range(2, 7):
            for some in all_sets(ring):
                for d in range(1, ring):
                    for k in range(1, ring + 1):
                        wanted = len(sums(ring, some, row_of(ring, 0, d, k)))
                        self.told(wanted, grown_many, ring, some, d, k)

    def test_none_all_and_by_two(self):
        for ring in RINGS:
            for d in range(1, ring):
                for k in (1, 2, ring):
                    self.told(0, grown_many, ring, (), d, k)
                    self.told(ring, grown_many, ring, tuple(range(ring)), d, k)
                for some in many_sets(ring):
                    partial = [run for run in runs_and_gaps(ring, some, d) if run[2] is not None]
                    self.assertEqual(grown_many(ring, some, d, 2), len(some) + len(partial))

    def test_no_number(self):
        for ring in (2, 6, 24):
            for some in [(), (0,), tuple(range(ring))]:
                for d in [0, *wrong_numbers(ring)]:
                    self.refused(NoNumber, grown_many, ring, some, d, 1)
                for k in [0, -1, ring + 1, FAR, -FAR, *WRONG_WHOLES]:
                    self.refused(NoNumber, grown_many, ring, some, 1, k)
                    self.refused(NoNumber, grown_many, ring, some, 0, k)

    def test_what_is_refused_first(self):
        for some in WRONG_SETS_OF_5:
            for d, k in [(1, 1), (0, 1), (1, 0), (None, None), (True, "1")]:
                self.refused(NoSet, grown_many, 5, some, d, k)
        for ring in WRONG_RINGS:
            for some in [(), (0,), [0], None, (1, 0)]:
                for d, k in [(1, 1), (0, 1), (1, 0), (None, None), (True, "1")]:
                    self.refused(NoRing, grown_many, ring, some, d, k)

    def test_by_names(self):
        self.told(5, grown_many, k=2, d=1, some=(0, 1, 4), ring=7)
        self.refused(NoNumber, grown_many, k=0, d=1, some=(0, 1, 4), ring=7)
        self.refused(NoSet, grown_many, k=0, d=1, some=(0, 4, 1), ring=7)
