"""Two sets filled up without new sums."""

from twosetsums.sums import sums


def all_that_stay(ring, some, known):
    """The set of all numbers that, with each number of a set, make a known sum."""
    return tuple([x for x in range(ring) if all([(x + number) % ring in known for number in some])])


def filled(ring, one, other):
    """The tuple of two sets, filled up as far as both make no new sums, the first one first."""
    known = sums(ring, one, other)
    first = all_that_stay(ring, other, known)
    return (first, all_that_stay(ring, first, known))


def is_filled(ring, one, other):
    """Whether two sets stay as they are when they are filled."""
    return filled(ring, one, other) == (one, other)
