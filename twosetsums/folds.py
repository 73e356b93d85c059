"""A set added to itself again and again."""

from twosetsums.errors import Apart
from twosetsums.sets import check_set, check_within, set_of_rests
from twosetsums.sums import sums

MOST_TIMES = 10 ** 9


def fold(ring, some, k):
    """The set of the rests of all sums of k numbers of a set, each as often as one likes."""
    check_set(ring, some)
    check_within(k, 0, MOST_TIMES)
    told = (0,)
    doubled = some
    left = k
    # Halving what is left makes about thirty turns of the greatest k.
    while left > 0:
        if left % 2 == 1:
            told = sums(ring, told, doubled)
        doubled = sums(ring, doubled, doubled)
        left //= 2
    return told


def growth(ring, some):
    """The list of how many numbers the folds of a set have, up to the first from which on they are no more."""
    check_set(ring, some)
    if some == ():
        raise Apart("a set with numbers is due")
    counts = []
    folded = some
    many = 0
    # Where a fold has as many numbers as the one ahead it is that one moved, and so are all behind it.
    while len(folded) > many:
        many = len(folded)
        counts.append(many)
        folded = sums(ring, folded, some)
    return counts


def order(ring, some):
    """The least number from 1 on whose fold of a set has all numbers, None where there is none."""
    check_set(ring, some)
    if some == ():
        return None
    counts = growth(ring, some)
    return len(counts) if counts[-1] == ring else None


def made_by(ring, some):
    """The set of the rests of all sums of none or more numbers of a set, each as often as one likes."""
    check_set(ring, some)
    # With 0 besides, each fold holds those of fewer numbers, and grows until it has all that can be made.
    return fold(ring, set_of_rests(ring, [0, *some]), ring)
