"""The steps by which a set is a row."""

from twosetsums.runs import row_of
from twosetsums.sets import check_set


def has_step(ring, some, d):
    """Whether all numbers of a set, in some order, are a row by d, none coming again."""
    return any([row_of(ring, first, d, len(some)) == some for first in some])


def steps_of(ring, some):
    """The rising tuple of the steps of a set, () of one of fewer than two numbers."""
    check_set(ring, some)
    if len(some) < 2:
        return ()
    return tuple([d for d in range(1, ring // 2 + 1) if has_step(ring, some, d)])
