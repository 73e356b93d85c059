"""0.1 to 0.4 for all functions together: names of arguments, the same answer again, told things handed in again."""

import inspect
import unittest

from tests.samples import WRONG_RINGS, Checks
from twosetsums import (filling, folds, grown, keeping, kinds, moves, nearness, numbered, runs, sets, several, steps,
                        sums, tables, texts, trading, trios, ways)
from twosetsums.errors import NoList, NoNumber, NoRing, NoSet, NoText, NoTrades, RingError

# Each function of the interface: ordinary arguments by name, in their order, and what it tells of them.
CALLS = [
    (sets.is_set, {"ring": 7, "thing": (1, 2, 4)}, True),
    (sets.set_of, {"ring": 7, "things": [9, -3, 2, 15]}, (1, 2, 4)),
    (sets.others, {"ring": 7, "some": (1, 2, 4)}, (0, 3, 5, 6)),
    (moves.moved, {"ring": 7, "some": (1, 2, 4), "number": -2}, (0, 2, 6)),
    (moves.stretched, {"ring": 7, "some": (1, 2, 4), "number": 3}, (3, 5, 6)),
    (moves.least_moved, {"ring": 7, "some": (1, 2, 4)}, (0, 1, 3)),
    (moves.move_to, {"ring": 7, "one": (1, 2, 4), "other": (0, 2, 6)}, 5),
    (sums.sums, {"ring": 7, "one": (1, 2, 4), "other": (0, 1)}, (1, 2, 3, 4, 5)),
    (sums.differences, {"ring": 7, "one": (1, 2, 4), "other": (0, 1)}, (0, 1, 2, 3, 4)),
    (sums.unlike, {"ring": 7, "some": (1, 2, 4)}, (3, 5, 6)),
    (sums.lacking, {"ring": 7, "one": (1, 2, 4), "other": (0, 1)}, (0, 6)),
    (ways.ways, {"ring": 7, "one": (1, 2, 4), "other": (0, 1)}, [0, 1, 2, 1, 1, 1, 0]),
    (ways.often, {"ring": 7, "one": (1, 2, 4), "other": (0, 1), "t": 2}, (2,)),
    (ways.first_pair, {"ring": 7, "one": (1, 2, 4), "other": (0, 1), "c": 2}, (1, 1)),
    (keeping.keepers, {"ring": 6, "some": (0, 1, 3, 4)}, (0, 3)),
    (keeping.whole_parts, {"ring": 6, "some": (0, 1, 2, 4), "h": 2}, (0,)),
    (keeping.broken_parts, {"ring": 6, "some": (0, 1, 2, 4), "h": 2}, (1,)),
    (keeping.rests_by, {"ring": 6, "some": (0, 1, 2, 4), "h": 2}, (0, 1)),
    (nearness.nearly, {"ring": 6, "some": (0, 1, 2, 4)}, [2]),
    (nearness.split, {"ring": 6, "some": (0, 1, 2, 4), "h": 2}, ((0, 2, 4), (1,))),
    (trading.trade, {"ring": 7, "one": (1, 2, 4), "other": (0, 1), "e": 2}, ((1, 2, 3, 4), (0,))),
    (trading.trades_hold, {"ring": 7, "one": (1, 2, 4), "other": (0, 1), "thing": (2, 4)}, True),
    (trading.ended, {"ring": 7, "one": (1, 2, 4), "other": (0, 1), "row": (2, 4)}, ((1, 2, 3, 4), (0,))),
    (trading.is_stuck, {"ring": 7, "one": (1, 2, 4), "other": (0, 1)}, False),
    (trading.trades_of, {"ring": 7, "one": (1, 2, 4), "other": (0, 1)}, (0,)),
    (steps.steps_of, {"ring": 7, "some": (0, 2, 5)}, (2,)),
    (kinds.kind_of, {"prime": 7, "one": (0, 2, 4), "other": (1, 3)}, ("step", 2)),
    (kinds.kind_holds, {"prime": 7, "one": (0, 2, 4), "other": (1, 3), "thing": ("step", 2)}, True),
    (runs.runs_by, {"ring": 7, "some": (0, 1, 4, 6), "d": 1}, [(4, 1), (6, 3)]),
    (runs.longest_run, {"ring": 7, "some": (0, 1, 4, 6), "d": 1}, 3),
    (runs.gaps, {"ring": 7, "some": (0, 1, 4, 6), "d": 1}, [1, 2]),
    (runs.row_of, {"ring": 7, "first": 5, "d": 2, "many": 3}, (0, 2, 5)),
    (grown.grown_many, {"ring": 7, "some": (0, 1, 4), "d": 1, "k": 2}, 5),
    (trios.is_free, {"ring": 6, "one": (0, 1), "other": (1, 2), "third": (0, 2)}, True),
    (trios.third_for, {"ring": 6, "one": (0, 1), "other": (1, 2)}, (0, 1, 2)),
    (filling.filled, {"ring": 5, "one": (0, 1), "other": (0, 2)}, ((0, 1, 3), (0, 2))),
    (filling.is_filled, {"ring": 5, "one": (0, 1), "other": (0, 2)}, False),
    (several.sum_all, {"ring": 7, "things": [(0, 1), (0, 2), (3,)]}, (3, 4, 5, 6)),
    (several.ends, {"ring": 7, "things": [(0, 1), (0, 2), (3,)]}, [2, 4, 4]),
    (several.choice, {"ring": 7, "things": [(0, 1), (0, 2), (3,)], "c": 5}, (0, 2, 3)),
    (folds.fold, {"ring": 7, "some": (1, 2), "k": 2}, (2, 3, 4)),
    (folds.growth, {"ring": 7, "some": (0, 1, 3)}, [3, 6, 7]),
    (folds.order, {"ring": 7, "some": (0, 1, 3)}, 3),
    (folds.made_by, {"ring": 6, "some": (4,)}, (0, 2, 4)),
    (numbered.sets_many, {"ring": 7, "a": 3}, 35),
    (numbered.nth_set, {"ring": 7, "a": 3, "number": 15}, (1, 2, 3)),
    (numbered.number_of, {"ring": 7, "some": (1, 2, 3)}, 15),
    (tables.table, {"ring": 4, "a": 2, "b": 2}, [0, 0, 4, 16, 16]),
    (tables.least_many, {"ring": 7, "a": 2, "b": 3}, 4),
    (tables.first_few, {"ring": 8, "a": 2, "b": 4}, ((0, 2), (0, 2, 4, 6))),
    (tables.kinds_many, {"ring": 6, "a": 2}, 3),
    (tables.kinds, {"ring": 6, "a": 2}, [(0, 1), (0, 2), (0, 3)]),
    (texts.set_shown, {"ring": 12, "some": (0, 3, 11)}, "0 3 11"),
    (texts.set_read, {"ring": 12, "text": "0 3 11"}, (0, 3, 11)),
]

WRONG = {"things": (0,), "some": [0], "one": (1, 0), "other": (True,), "third": None, "number": None, "t": 0,
         "c": -1, "h": True, "e": "1", "row": [2], "d": 0, "first": -1, "many": 8, "k": -1,
         "a": -1, "b": 0, "text": None}
REFUSAL = {"some": NoSet, "one": NoSet, "other": NoSet, "third": NoSet, "row": NoTrades, "text": NoText}


def refusal(call, name):
    """The class with which the function refuses a wrong argument of this name."""
    if name == "things":
        return NoSet if call == sets.set_of else NoList
    return REFUSAL.get(name, NoNumber)


def with_ring(named, ring):
    """The arguments with another ring, which is called prime in some functions."""
    return {name: ring if name in ("ring", "prime") else named[name] for name in named}


class CallsTest(Checks, unittest.TestCase):

    def test_arguments_have_the_names_and_places_of_the_interface(self):
        for call, named, wanted in CALLS:
            self.assertEqual(list(inspect.signature(call).parameters), list(named), call.__name__)

    def test_by_place_by_name_and_mixed(self):
        for call, named, wanted in CALLS:
            names = list(named)
            for placed in range(len(names) + 1):
                args = [named[name] for name in names[:placed]]
                rest = {name: named[name] for name in reversed(names[placed:])}
                self.told(wanted, call, *args, **rest)

    def test_the_first_wrong_one_from_the_left_is_refused(self):
        for call, named, wanted in CALLS:
            names = [name for name in named if name in WRONG]
            for first in range(len(names)):
                for last in range(first, len(names)):
                    wrong = {name: WRONG[name] for name in names[first:last + 1]}
                    self.refused(refusal(call, names[first]), call, **{**named, **wrong})
                    for ring in WRONG_RINGS:
                        self.refused(NoRing, call, **with_ring({**named, **wrong}, ring))

    def test_refusals_are_caught_as_ring_errors_and_value_errors(self):
        for call, named, wanted in CALLS:
            for kind in (RingError, ValueError):
                with self.assertRaises(kind):
                    call(**with_ring(named, None))

    def test_the_same_question_has_the_same_answer_whatever_was_asked_in_between(self):
        for call, named, wanted in CALLS:
            for between, its_named, its_wanted in CALLS:
                self.told(its_wanted, between, **its_named)
                self.refused(NoRing, between, **with_ring(its_named, 25))
                self.told(wanted, call, **named)

    def test_lists_told_are_new_and_the_askers_own(self):
        for call, named, wanted in CALLS:
            if isinstance(wanted, list):
                self.new_list(call, *named.values())

    def test_what_was_told_may_be_handed_in_again(self):
        told = sets.set_of(24, [-1, 40, 5])
        for step in range(1, 24):
            self.assertTrue(sets.is_set(24, told))
            told = moves.least_moved(24, moves.moved(24, moves.stretched(24, sets.others(24, told), 5), step))
            told = sums.lacking(24, told, sums.unlike(24, sums.differences(24, told, (0, step))[:3]))
        self.assertTrue(sets.is_set(24, told))
        self.told(0, moves.move_to, 24, told, told)

    def test_what_one_module_told_is_handed_in_to_another(self):
        for ring in (7, 11):
            for number in range(numbered.sets_many(ring, 3)):
                one = numbered.nth_set(ring, 3, number)
                other = texts.set_read(ring, texts.set_shown(ring, trios.third_for(ring, one, (0, 1))))
                row = trading.trades_of(ring, one, other)
                self.told(True, trading.trades_hold, ring, one, other, row)
                self.told(True, trading.is_stuck, ring, *trading.ended(ring, one, other, row))
                self.told(True, kinds.kind_holds, ring, one, other, kinds.kind_of(ring, one, other))
                self.told(True, filling.is_filled, ring, *filling.filled(ring, one, other))
                both = several.sum_all(ring, list(filling.filled(ring, one, other)))
                self.told(both, sums.sums, ring, one, other)
                self.told(number, numbered.number_of, ring, one)
        for some in tables.kinds(12, 4):
            self.told(some, moves.least_moved, 12, some)
