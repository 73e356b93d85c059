"""Counts of all pairs of sets of a size by their sums, and of all sets of a size that are not alike by moving."""

from twosetsums.errors import TooGreat
from twosetsums.moves import least_moved
from twosetsums.numbered import nth_set, sets_many
from twosetsums.sets import check_ring, check_within
from twosetsums.sums import sums

MOST_PLACES_OF_PAIRS = 8
MOST_PLACES_OF_KINDS = 12
MOST_KINDS = 100


def check_most(many, most):
    """Refuse more than the most."""
    if many > most:
        raise TooGreat(many, most)


def check_sizes(ring, a, b):
    """Refuse what is no ring, then one that is too great for all pairs, then what is no size, a ahead of b."""
    check_ring(ring)
    check_most(ring, MOST_PLACES_OF_PAIRS)
    check_within(a, 1, ring)
    check_within(b, 1, ring)


def sets_of_size(ring, a):
    """The rising list of all sets of a numbers."""
    return [nth_set(ring, a, number) for number in range(sets_many(ring, a))]


def pairs_of_sizes(ring, a, b):
    """The rising list of all pairs of a set of a and one of b numbers."""
    seconds = sets_of_size(ring, b)
    return [(one, other) for one in sets_of_size(ring, a) for other in seconds]


def table(ring, a, b):
    """The list, at s, of how many pairs of a set of a and one of b numbers have just s sums."""
    check_sizes(ring, a, b)
    counts = [0] * (ring + 1)
    for one, other in pairs_of_sizes(ring, a, b):
        counts[len(sums(ring, one, other))] += 1
    return counts


def least_many(ring, a, b):
    """How few sums a set of a and one of b numbers have at least."""
    counts = table(ring, a, b)
    return min([s for s in range(ring + 1) if counts[s] > 0])


def first_few(ring, a, b):
    """The first pair of a set of a and one of b numbers with as few sums as such a pair has at least."""
    check_sizes(ring, a, b)
    return min(pairs_of_sizes(ring, a, b), key=lambda pair: (len(sums(ring, pair[0], pair[1])), pair))


def least_of_each(ring, a):
    """The rising list of all sets of a numbers that are the least of those alike to them by moving."""
    check_ring(ring)
    check_most(ring, MOST_PLACES_OF_KINDS)
    return [some for some in sets_of_size(ring, a) if least_moved(ring, some) == some]


def kinds_many(ring, a):
    """How many sets of a numbers there are, no two alike by moving."""
    return len(least_of_each(ring, a))


def kinds(ring, a):
    """The rising list of the least of all sets of a numbers that are alike by moving."""
    told = least_of_each(ring, a)
    check_most(len(told), MOST_KINDS)
    return told
