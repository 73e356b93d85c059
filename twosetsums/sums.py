"""Sums and differences of two sets on a ring, and the numbers that are no sums."""

from twosetsums.sets import check_pair, check_set, others, set_of_rests


def sums(ring, one, other):
    """The set of the rests of all sums of a number of the one and one of the other."""
    check_pair(ring, one, other)
    return set_of_rests(ring, [a + b for a in one for b in other])


def differences(ring, one, other):
    """The set of the rests of all numbers of the one less one of the other."""
    check_pair(ring, one, other)
    return set_of_rests(ring, [a - b for a in one for b in other])


def unlike(ring, some):
    """The set of the rests of all sums of two unlike numbers of a set."""
    check_set(ring, some)
    return set_of_rests(ring, [a + b for a in some for b in some if a != b])


def lacking(ring, one, other):
    """The set of the numbers of the ring that are no sums of both."""
    return others(ring, sums(ring, one, other))
