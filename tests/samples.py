"""What several tests hand in: right and wrong rings, sets, whole numbers and lists."""

import copy
import sys
from itertools import combinations

FAR = 10 ** 30

RINGS = list(range(2, 25))

WRONG_RINGS = [0, 1, 25, -3, 24 + FAR, -FAR, True, False, None, "", "5", [], [5], (), (5,), (2, 3), {}, {5: 5}]

WRONG_WHOLES = [True, False, None, "", "3", (), (3,), [], [3], {}, {3: 3}]


def deep(depth):
    """A list in a tuple in a dict and so on, this deep."""
    thing = 0
    for level in range(depth):
        thing = ([thing], (thing,), {"in": thing})[level % 3]
    return thing


# None of these is a set of a ring of 5 places.
WRONG_SETS_OF_5 = [
    [], [0], [0, 1], {}, {0: 1}, None, True, False, 0, 3, -1, FAR, "", "0 1", "none", deep(10),
    (1, 0), (0, 2, 1), (4, 3, 2, 1, 0), (0, 0), (0, 1, 1), (1, 3, 1),
    (5,), (0, 5), (6,), (24,), (FAR,), (-1,), (-1, 0), (-5, 0), (-FAR, 0), (0, 1, 2, 3, 4, 5),
    (True,), (False,), (0, True), (False, 1), (0, 1, True), ("",), ("0",), (0, "1"), (None,), (0, None),
    ((),), ((0,),), (0, (1,)), ([],), ([0], 1), (0, [1]), ({},), (0, {1: 1}), (0, deep(9)),
]

WRONG_LISTS = [
    (), (0,), (0, 1), "", "0 1", {}, {0: 1}, None, True, 0, 7,
    [True], [False], [0, True], [None], [0, None], [""], ["0"], [0, 1, "2"], [()], [(0,)], [0, (1,)],
    [[]], [[0]], [0, [1]], [{}], [0, {1: 1}], [None, 0], deep(10), [deep(9)],
]


def wrong_numbers(ring):
    """What is no number of the ring."""
    return [-1, ring, ring + 1, -ring, FAR, -FAR, *WRONG_WHOLES]


def all_sets(ring):
    """All sets of the ring, those of fewer numbers first."""
    return [some for many in range(ring + 1) for some in combinations(range(ring), many)]


def some_sets(ring):
    """A few sets of a ring, small or great: none, all, one number, rows, and others."""
    told = [(), tuple(range(ring)), (0,), (ring - 1,), (0, ring - 1), (0, 1), tuple(range(0, ring, 2)),
            tuple(range(1, ring, 3)), tuple(sorted({number * number % ring for number in range(ring)}))]
    return sorted(set(told))


def parting(ring):
    """The numbers from 2 to the ring that go into it."""
    return [h for h in range(2, ring + 1) if ring // h * h == ring]


def parted_sets(ring):
    """Sets of whole parts of a ring and a little besides, or without a little."""
    told = []
    for h in parting(ring)[:-1]:
        part = set(range(h - 1, ring, h))
        told += [part, part | {0}, part - {ring - 1}, set(range(ring)) - part - {0}, part | {0, 1}]
    return sorted({tuple(sorted(some)) for some in told})


def many_sets(ring):
    """some_sets and parted_sets together."""
    return sorted({*some_sets(ring), *parted_sets(ring)})


def rows_with_gaps(ring):
    """Rows by a step round a ring, and the same without one number of theirs."""
    told = []
    for d in range(1, min(ring, 6)):
        row = [(ring - 1 + d * turn) % ring for turn in range(ring // 2 + 1)]
        told += [row, row[:1] + row[2:]]
    return sorted({tuple(sorted(set(row))) for row in told})


class TooLong(BaseException):
    """A call takes more steps than it may."""


class Checks:
    """What test cases of several files check; stands beside unittest.TestCase."""

    def refused(self, kind, call, *args, **named):
        """The call is refused with just this class, and what was handed in stays as it was."""
        before = copy.deepcopy((args, named))
        try:
            told = call(*args, **named)
        except Exception as error:
            self.assertIs(type(error), kind, (call.__name__, args, named))
            self.assertEqual(repr((args, named)), repr(before))
            return error
        self.fail(f"{call.__name__} {args} {named} told {told!r}")

    def new_list(self, call, *args):
        """The call tells a list that is the asker's own: what is done to it changes no later answer."""
        wanted = copy.deepcopy(call(*args))
        first, second = call(*args), call(*args)
        self.assertIs(type(first), list)
        self.assertIsNot(first, second)
        first.clear()
        first.append("else")
        self.assertEqual(second, wanted)
        self.assertEqual(call(*args), wanted)

    def told(self, wanted, call, *args, **named):
        """The call tells just this, of the same kind, twice, and what was handed in stays as it was."""
        before = copy.deepcopy((args, named))
        for turn in range(2):
            found = call(*args, **named)
            # repr tells 1 from True, and a list from a tuple.
            self.assertEqual(repr(found), repr(wanted), (call.__name__, args, named, turn))
        self.assertEqual(repr((args, named)), repr(before))

    def at_once(self, call, *args, most=10 ** 6):
        """What the call tells; it fails where it takes more steps of the interpreter than it may."""
        taken = 0

        def count(frame, event, arg):
            nonlocal taken
            frame.f_trace_opcodes = True
            taken += 1
            if taken > most:
                raise TooLong
            return count

        before = sys.gettrace()
        sys.settrace(count)
        try:
            told = call(*args)
        except TooLong:
            told = TooLong
        finally:
            sys.settrace(before)
        self.assertIsNot(told, TooLong, (call.__name__, args))
        self.assertGreater(taken, 10)
        return told
