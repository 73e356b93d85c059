"""How many sums a set has with a row by a step."""

from twosetsums.runs import gaps
from twosetsums.sets import check_within


def grown_many(ring, some, d, k):
    """How many sums a set has with the row of k numbers from 0 on by d."""
    between = gaps(ring, some, d)
    check_within(k, 1, ring)
    # The runs have all numbers of the set, and each grows by k - 1 into the gap behind it, till that is full.
    return len(some) + sum([min(gap, k - 1) for gap in between])
