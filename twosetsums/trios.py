"""Three sets no sum of which, one number of each, is a multiple of the ring."""

from twosetsums.sets import set_of_rests
from twosetsums.sums import lacking, sums


def is_free(ring, one, other, third):
    """Whether no sum of three numbers, one of each set, is a multiple of the ring."""
    return 0 not in sums(ring, sums(ring, one, other), third)


def third_for(ring, one, other):
    """The greatest set with which two sets are free."""
    return set_of_rests(ring, [-number for number in lacking(ring, one, other)])
