"""4.1 to 4.4: trade, trades_hold, ended, is_stuck, trades_of."""

import unittest
from itertools import product

from tests.samples import (FAR, RINGS, WRONG_RINGS, WRONG_SETS_OF_5, Checks, all_sets, deep, many_sets, some_sets,
                           wrong_numbers)
from twosetsums.errors import Apart, NoNumber, NoRing, NoSet, NoTrades
from twosetsums.keeping import keepers
from twosetsums.sums import differences, sums
from twosetsums.trading import ended, is_stuck, trade, trades_hold, trades_of

OF_TWO = (is_stuck, trades_of)
OF_THREE = (trade, trades_hold, ended)


def traded(ring, one, other, e):
    """Both sets behind a trade, told number by number of the ring."""
    got = tuple(c for c in range(ring) if c in one or (c - e) % ring in other)
    kept = tuple(c for c in range(ring) if c in other and (c + e) % ring in one)
    return got, kept


def behind(ring, one, other, row):
    """Both sets behind each trade of a row, those handed in first."""
    told = [(one, other)]
    for e in row:
        told.append(traded(ring, *told[-1], e))
    return told


def stuck(ring, one, other):
    """Whether no trade parts the other set, which is not ()."""
    return other != () and all(traded(ring, one, other, e)[1] in ((), other) for e in range(ring))


def least_row(ring, one, other):
    """The row of trades of 4.3: the least that parts the other set, each time, till none does."""
    row = ()
    while not stuck(ring, one, other):
        e = min(e for e in range(ring) if traded(ring, one, other, e)[1] not in ((), other))
        one, other = traded(ring, one, other, e)
        row += (e,)
    return row


def pairs(ring, sets):
    return [(one, other) for one in sets(ring) for other in sets(ring)]


def many_pairs():
    """All pairs of small rings, and some of each ring, with the ring."""
    told = [(ring, one, other) for ring in range(2, 6) for one, other in pairs(ring, all_sets)]
    return told + [(ring, one, other) for ring in RINGS for one, other in pairs(ring, some_sets)]


class TradeTest(Checks, unittest.TestCase):

    def test_ordinary(self):
        self.told(((0, 1, 2), (0,)), trade, 5, (0, 1), (0, 1), 1)
        self.told(((0, 1), (0, 1)), trade, 5, (0, 1), (0, 1), 0)
        self.told(((0, 1, 2, 3), ()), trade, 5, (0, 1), (0, 1), 2)
        self.told(((0, 1, 23), (1,)), trade, 24, (0, 1), (0, 1), 23)
        self.told(((0, 1), ()), trade, 2, (0,), (0,), 1)

    def test_a_trade_is_of_the_sets_as_they_were_ahead(self):
        # The second set keeps by the first one ahead of the trade, not by what that one became.
        self.told(((0, 3, 4), ()), trade, 6, (0,), (1, 2), 2)

    def test_all_and_none(self):
        for ring in RINGS:
            full = tuple(range(ring))
            for some in some_sets(ring):
                for e in (0, 1, ring - 1):
                    self.told((full, some), trade, ring, full, some, e)
                    self.told((some, ()), trade, ring, some, (), e)
                    back = tuple(sorted((number - e) % ring for number in some))
                    self.told((full, back), trade, ring, some, full, e)

    def test_held_against_a_second_reckoning_and_what_follows(self):
        for ring, one, other in many_pairs():
            ahead = set(sums(ring, one, other))
            for e in range(ring):
                self.told(traded(ring, one, other, e), trade, ring, one, other, e)
                got, kept = trade(ring, one, other, e)
                self.assertEqual(len(got) + len(kept), len(one) + len(other))
                self.assertLessEqual(set(sums(ring, got, kept)), ahead)

    def test_no_number(self):
        for ring in (2, 5, 24):
            for one, other in [((), ()), ((0, 1), (0,)), ((0,), ())]:
                for e in wrong_numbers(ring):
                    self.refused(NoNumber, trade, ring, one, other, e)


class RowsTest(Checks, unittest.TestCase):

    def check_row(self, ring, one, other, row):
        told = behind(ring, one, other, row)
        if all(second != () for first, second in told[1:]):
            self.told(True, trades_hold, ring, one, other, row)
            self.told(told[-1], ended, ring, one, other, row)
            if other:
                self.assertGreaterEqual(len(sums(ring, one, other)), len(ended(ring, one, other, row)[0]))
        else:
            self.told(False, trades_hold, ring, one, other, row)
            self.refused(NoTrades, ended, ring, one, other, row)

    def test_ordinary(self):
        self.told(True, trades_hold, 5, (0, 1), (0, 1), (1,))
        self.told(((0, 1, 2), (0,)), ended, 5, (0, 1), (0, 1), (1,))
        self.told(True, trades_hold, 5, (0, 1), (0, 1), (1, 2, 2, 0))
        self.told(False, trades_hold, 5, (0, 1), (0, 1), (2,))
        self.refused(NoTrades, ended, 5, (0, 1), (0, 1), (2,))
        self.told(False, trades_hold, 5, (0, 1), (0, 1), (1, 3))
        self.refused(NoTrades, ended, 5, (0, 1), (0, 1), (1, 3))

    def test_no_trades_at_all(self):
        for ring, one, other in many_pairs():
            self.told(True, trades_hold, ring, one, other, ())
            self.told((one, other), ended, ring, one, other, ())

    def test_none_for_the_second_set(self):
        for ring in RINGS:
            for one in some_sets(ring):
                for row in [(0,), (ring - 1,), (0, 0)]:
                    self.told(False, trades_hold, ring, one, (), row)
                    self.refused(NoTrades, ended, ring, one, (), row)

    def test_all_rows_of_two_trades_and_less(self):
        for ring in range(2, 5):
            for one, other in pairs(ring, all_sets):
                for many in range(3):
                    for row in product(range(ring), repeat=many):
                        self.check_row(ring, one, other, row)

    def test_each_ring(self):
        for ring in RINGS:
            for one, other in pairs(ring, some_sets):
                for row in [(0,), (1,), (ring - 1, 0), (1, 1, 1), (0,) * 30, (ring // 2, 1), tuple(range(ring))]:
                    self.check_row(ring, one, other, row)

    def test_the_order_of_trades_tells(self):
        self.told(((0, 1, 2, 3, 4), (0,)), ended, 7, (0, 1, 2), (0, 1, 2), (2,))
        self.told(((0, 1, 2, 3), (0, 1)), ended, 7, (0, 1, 2), (0, 1, 2), (1,))
        self.told(((0, 1, 2, 3, 4), (0,)), ended, 7, (0, 1, 2), (0, 1, 2), (1, 3))
        self.told(False, trades_hold, 7, (0, 1, 2), (0, 1, 2), (3, 1))

    def test_whatever_is_handed_in(self):
        wrong = [[], [0], [0, 1], {}, {0: 0}, None, True, False, 0, 1, -1, FAR, "", "0", "none", deep(10),
                 (True,), (False,), (0, True), (0, None), (None,), ("0",), (0, "1"), ("",), (0, -1), (-1,), (5,),
                 (0, 5), (FAR,), (-FAR,), ((),), ((0,),), (0, (0,)), ([],), ([0],), ({},), (0, deep(9)), (0, 4, 2)]
        for thing in wrong:
            for one, other in [((0, 1), (0, 1)), ((), ()), ((2,), ()), ((), (0,))]:
                self.told(False, trades_hold, 5, one, other, thing)
                self.refused(NoTrades, ended, 5, one, other, thing)
        # By all numbers the second set keeps its own by each trade: the thing alone is wrong here.
        for thing in wrong[:-1]:
            self.told(False, trades_hold, 5, (0, 1, 2, 3, 4), (0, 1), thing)
            self.refused(NoTrades, ended, 5, (0, 1, 2, 3, 4), (0, 1), thing)
        self.told(True, trades_hold, 5, (0, 1, 2, 3, 4), (0, 1), (0, 4, 2))


class StuckTest(Checks, unittest.TestCase):

    def test_ordinary(self):
        self.told(False, is_stuck, 5, (0, 1), (0, 1))
        self.told(True, is_stuck, 5, (0, 1, 2), (0,))
        self.told(True, is_stuck, 6, (0, 2, 4), (1, 3))
        self.told(False, is_stuck, 6, (0, 2, 4), (1, 2))
        self.told(True, is_stuck, 2, (0, 1), (0, 1))
        self.told(True, is_stuck, 24, (1, 9, 17), (0, 8))

    def test_none_and_all(self):
        for ring in RINGS:
            full = tuple(range(ring))
            for some in some_sets(ring):
                self.told(False, is_stuck, ring, some, ())
                self.told(some != (), is_stuck, ring, full, some)
                self.told(some != (), is_stuck, ring, (), some)

    def test_held_against_a_second_reckoning_and_what_follows(self):
        found = 0
        for ring, one, other in many_pairs():
            self.told(stuck(ring, one, other), is_stuck, ring, one, other)
            if is_stuck(ring, one, other):
                found += len(one) < ring and len(other) > 1
                self.assertLessEqual(set(differences(ring, other, other)), set(keepers(ring, one)))
        self.assertGreater(found, 50)

    def test_sets_of_whole_parts(self):
        for ring in (4, 6, 12, 24):
            for one, other in pairs(ring, many_sets):
                self.told(stuck(ring, one, other), is_stuck, ring, one, other)


class TradesOfTest(Checks, unittest.TestCase):

    def check_pair(self, ring, one, other):
        row = least_row(ring, one, other)
        self.told(row, trades_of, ring, one, other)
        self.told(True, trades_hold, ring, one, other, row)
        last = ended(ring, one, other, row)
        self.told(True, is_stuck, ring, *last)
        self.assertGreaterEqual(len(sums(ring, one, other)), len(last[0]))

    def test_ordinary(self):
        self.told((1,), trades_of, 5, (0, 1), (0, 1))
        self.told((1, 3), trades_of, 7, (0, 1, 2), (0, 1, 2))
        self.told((), trades_of, 7, (0, 1, 2), (4,))
        self.told((), trades_of, 6, (0, 2, 4), (1, 3))
        self.told((), trades_of, 2, (0, 1), (0, 1))
        self.told((0,), trades_of, 24, (0,), (0, 12))

    def test_held_against_a_second_reckoning(self):
        for ring, one, other in many_pairs():
            if one and other:
                self.check_pair(ring, one, other)

    def test_sets_of_whole_parts(self):
        for ring in (4, 6, 8, 12, 24):
            for one, other in pairs(ring, many_sets):
                if one and other:
                    self.check_pair(ring, one, other)

    def test_by_a_prime(self):
        checked = 0
        for ring in (2, 3, 5, 7, 11, 13, 17, 19, 23):
            for one, other in pairs(ring, all_sets if ring < 7 else some_sets):
                if one and other:
                    checked += 1
                    least = min(ring, len(one) + len(other) - 1)
                    self.assertGreaterEqual(len(sums(ring, one, other)), least)
                    # The trades show it: stuck by a prime, one set has all numbers or the other has one.
                    first, second = ended(ring, one, other, trades_of(ring, one, other))
                    self.assertGreaterEqual(len(first), least)
                    self.assertTrue(len(first) == ring or len(second) == 1)
        self.assertGreater(checked, 1000)

    def test_apart_behind_no_set(self):
        for ring in RINGS:
            for some in some_sets(ring):
                self.refused(Apart, trades_of, ring, some, ())
                self.refused(Apart, trades_of, ring, (), some)
        for wrong in WRONG_SETS_OF_5:
            self.refused(NoSet, trades_of, 5, (), wrong)
            self.refused(NoSet, trades_of, 5, wrong, ())
        for ring in WRONG_RINGS:
            self.refused(NoRing, trades_of, ring, (), ())


class RefusalsTest(Checks, unittest.TestCase):

    def test_no_set_is_refused_ahead_of_all_behind_it(self):
        for wrong in WRONG_SETS_OF_5:
            for one, other in [(wrong, (0, 1)), ((0, 1), wrong), ((), wrong), (wrong, ()), (wrong, wrong)]:
                for call in OF_TWO:
                    self.refused(NoSet, call, 5, one, other)
                for call in OF_THREE:
                    for thing in [0, 5, None, True, "1", (), (0,), [0]]:
                        self.refused(NoSet, call, 5, one, other, thing)

    def test_no_ring_is_refused_ahead_of_all_else(self):
        for ring in WRONG_RINGS:
            for one in [(), (0,), [0], None, (1, 0)]:
                for other in [(), (0,), "0", (True,)]:
                    for call in OF_TWO:
                        self.refused(NoRing, call, ring, one, other)
                    for call in OF_THREE:
                        for thing in [0, None, True, "1", (), (0,)]:
                            self.refused(NoRing, call, ring, one, other, thing)

    def test_by_names(self):
        both = {"other": (0, 1), "one": (0, 1), "ring": 5}
        self.told(((0, 1, 2), (0,)), trade, e=1, **both)
        self.told(True, trades_hold, thing=(1,), **both)
        self.told(((0, 1, 2), (0,)), ended, row=(1,), **both)
        self.told(False, is_stuck, **both)
        self.told((1,), trades_of, **both)
        self.refused(NoNumber, trade, e=5, **both)
        self.refused(NoTrades, ended, row=[1], **both)
        self.refused(Apart, trades_of, other=(), one=(0, 1), ring=5)
