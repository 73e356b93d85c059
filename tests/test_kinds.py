"""5.2 and 5.3: kind_of, kind_holds."""

import unittest

from tests.samples import FAR, WRONG_RINGS, WRONG_SETS_OF_5, Checks, all_sets, deep, some_sets
from twosetsums.errors import Apart, NoPrime, NoRing, NoSet
from twosetsums.kinds import kind_holds, kind_of

PRIMES = (2, 3, 5, 7, 11, 13, 17, 19, 23)
NO_PRIMES = [4, 6, 8, 9, 10, 12, 14, 15, 16, 18, 20, 21, 22, 24]

# None of these tells anything of any pair.
SAY_NOTHING = [
    None, True, False, 0, 1, -1, FAR, "", "one", "all", "more 1", (), [], {}, deep(10),
    ["one"], ["all"], ["lack", 0], ["step", 1], ["more", 1], {"one": 1}, {"step": 1},
    ("",), ("ONE",), ("one ",), ("more",), ("lack",), ("step",), (1,), (None,), (True,), (["one"],), (("one",),),
    ("one", 1), ("one", None), ("all", 0), ("all", ()), ("one", "one"), ("one", "all"), ("all", "one"),
    ("more", 0), ("more", True), ("more", False), ("more", -1), ("more", None), ("more", "1"), ("more", (1,)),
    ("lack", True), ("lack", False), ("lack", -1), ("lack", None), ("lack", "0"), ("lack", (0,)), ("lack", [0]),
    ("step", True), ("step", False), ("step", 0), ("step", -1), ("step", None), ("step", "1"), ("step", (1,)),
    ("more", FAR), ("lack", FAR), ("step", FAR), ("step", -FAR), ("more", 1, 1), ("lack", 0, 0), ("step", 1, 1),
    ("step", 1, None), (1, "step"), (0, "lack"), ("Step", 1), ("steps", 1), ("", 1), (None, 1), (1, 1), (True, True),
    (("step",), 1), (["lack"], 0), ({}, 1), (("step", 1),), (("lack", 0), ("step", 1)), ("step", deep(8)),
]


def step_told(prime, some, d):
    """Whether the set, of two numbers or more, is a row by d."""
    return len(some) > 1 and any(
        sorted({(first + d * turn) % prime for turn in range(len(some))}) == list(some) for first in range(prime))


def truths(prime, one, other):
    """All tuples that tell truly of two sets, in the order in which kind_of looks at them."""
    found = {(a + b) % prime for a in one for b in other}
    least = len(one) + len(other) - 1
    more = len(found) - (least if least < prime else prime)
    told = []
    if len(one) == 1 or len(other) == 1:
        told.append(("one",))
    if least >= prime:
        told.append(("all",))
    if more >= 1:
        told.append(("more", more))
    if len(found) == prime - 1:
        told += [("lack", c) for c in range(prime) if c not in found]
    told += [("step", d) for d in range(1, prime) if 2 * d <= prime
             and step_told(prime, one, d) and step_told(prime, other, d)]
    return told


def candidates(prime):
    numbered = [(word, number) for word in ("more", "lack", "step") for number in range(-1, prime + 2)]
    return [("one",), ("all",), *numbered]


def rows_of(prime):
    """Rows by a few steps, and such without a number or with one besides."""
    told = set()
    for d in (1, 2, prime // 2):
        for many in (2, 3, prime // 2, prime - 2):
            row = {(3 + d * turn) % prime for turn in range(many)}
            told |= {tuple(sorted(row)), tuple(sorted(row | {1})), tuple(sorted(row - {3 + d}))}
    return sorted(told | set(some_sets(prime)) - {()})


def full_sets(ring):
    return [some for some in all_sets(ring) if some]


class KindsTest(Checks, unittest.TestCase):

    def check_pair(self, prime, one, other):
        told = truths(prime, one, other)
        self.told(told[0], kind_of, prime, one, other)
        self.told(True, kind_holds, prime, one, other, kind_of(prime, one, other))
        return told[0][0]

    def check_all_things(self, prime, one, other):
        told = truths(prime, one, other)
        for thing in candidates(prime):
            self.told(thing in told, kind_holds, prime, one, other, thing)
        for thing in told:
            # What equals a thing told truly, or looks like it, but is none.
            self.told(False, kind_holds, prime, one, other, list(thing))
            self.told(False, kind_holds, prime, one, other, thing + (0,))
            if len(thing) == 2:
                word, number = thing
                for wrong in [str(number), (number,), [number], None, -number - 1, number + prime, number - prime]:
                    self.told(False, kind_holds, prime, one, other, (word, wrong))
                if number in (0, 1):
                    self.told(False, kind_holds, prime, one, other, (word, bool(number)))

    def test_ordinary(self):
        self.told(("one",), kind_of, 7, (0, 1, 3), (4,))
        self.told(("one",), kind_of, 7, (4,), (0, 1, 2, 3, 4, 5))
        self.told(("all",), kind_of, 7, (0, 1, 2, 3), (0, 1, 2, 4))
        self.told(("more", 1), kind_of, 7, (0, 1, 3), (0, 1))
        self.told(("more", 3), kind_of, 11, (0, 1, 3), (0, 1, 5))
        self.told(("lack", 6), kind_of, 7, (0, 1, 2), (0, 1, 2, 3))
        self.told(("step", 2), kind_of, 7, (0, 2, 4), (1, 3))
        self.told(("step", 5), kind_of, 23, (0, 5, 10), (4, 9, 22))

    def test_one_goes_ahead_of_all_and_all_ahead_of_the_rest(self):
        self.told(("one",), kind_of, 7, (0,), (0, 1, 2, 3, 4, 5, 6))
        self.told(("one",), kind_of, 2, (0,), (1,))
        self.told(("all",), kind_of, 2, (0, 1), (0, 1))
        # Just as many as all: both have 8 numbers together.
        self.told(("all",), kind_of, 7, (0, 1, 2, 3), (0, 1, 2, 3))
        self.told(("more", 1), kind_of, 7, (0, 1, 3), (0, 1, 2, 3))
        self.told(("lack", 0), kind_of, 5, (1, 2), (0, 1, 2))

    def test_whatever_else_is(self):
        row = (0, 1, 2, 3, 4, 5)
        for thing in [("one",), ("lack", 6)]:
            self.told(True, kind_holds, 7, (0,), row, thing)
        for thing in [("one",), ("all",)]:
            self.told(True, kind_holds, 7, (0,), (0, 1, 2, 3, 4, 5, 6), thing)
        for thing in [("all",), ("step", 1), ("step", 2), ("step", 3)]:
            self.told(True, kind_holds, 7, row, row, thing)
        for thing in [("lack", 6), ("step", 1)]:
            self.told(True, kind_holds, 7, (0, 1, 2), (0, 1, 2, 3), thing)
        for thing in [("more", 1), ("lack", 5)]:
            self.told(True, kind_holds, 7, (0, 1, 3), (0, 1, 3), thing)
        self.told(False, kind_holds, 7, (0,), row, ("step", 1))
        self.told(False, kind_holds, 7, row, row, ("step", 4))
        self.told(False, kind_holds, 7, row, row, ("step", 6))

    def test_all_pairs_of_small_primes(self):
        for prime in (2, 3, 5):
            for one in full_sets(prime):
                for other in full_sets(prime):
                    self.check_pair(prime, one, other)
                    self.check_all_things(prime, one, other)

    def test_many_pairs_of_seven(self):
        seen = set()
        for one in full_sets(7)[::2]:
            for other in full_sets(7)[::3]:
                seen.add(self.check_pair(7, one, other))
        self.assertEqual(seen, {"one", "all", "more", "lack", "step"})

    def test_many_pairs_of_greater_primes(self):
        for prime in (7, 11, 13, 17, 19, 23):
            seen = set()
            for at, one in enumerate(rows_of(prime)):
                for other in rows_of(prime)[at % 2::2]:
                    seen.add(self.check_pair(prime, one, other))
                self.check_all_things(prime, one, rows_of(prime)[-at])
            self.assertEqual(seen, {"one", "all", "more", "lack", "step"}, prime)

    def test_whatever_is_handed_in(self):
        for prime, one, other in [(2, (0,), (1,)), (5, (1, 2), (0, 1, 2)), (7, (0, 1, 2), (0, 1, 2, 3)),
                                  (7, (0, 1, 3), (0, 1)), (7, (1, 2), (1, 2)), (7, (0,), (1, 2, 3, 4, 5, 6)),
                                  (7, (0, 1, 2), (1, 2, 3, 4)), (5, (0, 1, 2, 3), (0, 1, 2)), (23, (4, 5), (8, 9))]:
            for thing in SAY_NOTHING:
                self.told(False, kind_holds, prime, one, other, thing)


class RefusalsTest(Checks, unittest.TestCase):

    def refused_both(self, kind, prime, one, other):
        self.refused(kind, kind_of, prime, one, other)
        for thing in [("one",), ("step", 1), None, [0]]:
            self.refused(kind, kind_holds, prime, one, other, thing)

    def test_no_ring_is_refused_ahead_of_all_else(self):
        for prime in WRONG_RINGS + [29, 31, 27, -5, -2]:
            for one in [(0,), (), None, (1, 0)]:
                for other in [(0,), (), [0], (True,)]:
                    self.refused_both(NoRing, prime, one, other)

    def test_no_prime_is_refused_ahead_of_sets(self):
        for prime in NO_PRIMES:
            for one in [(0,), (0, 1), (), None, (1, 0)]:
                for other in [(0,), (0, 1), (), [0], (True,)]:
                    self.refused_both(NoPrime, prime, one, other)

    def test_no_set_is_refused_ahead_of_apart(self):
        for wrong in WRONG_SETS_OF_5:
            for some in [(0, 1), (), wrong]:
                self.refused_both(NoSet, 5, some, wrong)
                self.refused_both(NoSet, 5, wrong, some)

    def test_apart(self):
        for prime in PRIMES:
            for some in some_sets(prime):
                self.refused_both(Apart, prime, some, ())
                self.refused_both(Apart, prime, (), some)

    def test_each_prime_is_taken(self):
        for prime in PRIMES:
            self.told(("one",), kind_of, prime, (0,), (1,))
            self.told(True, kind_holds, prime, (0,), (1,), ("one",))

    def test_by_names(self):
        both = {"other": (1, 3), "one": (0, 2, 4), "prime": 7}
        self.told(("step", 2), kind_of, **both)
        self.told(True, kind_holds, thing=("step", 2), **both)
        self.refused(NoPrime, kind_of, other=(), one=[0], prime=9)
        self.refused(NoPrime, kind_holds, thing=None, other=(), one=[0], prime=9)
        self.refused(Apart, kind_holds, thing=None, other=(), one=(0,), prime=7)
