"""The numbers that keep a set when it is moved by them, and the parts of a ring that are whole or broken in a set."""

from twosetsums.errors import NoNumber
from twosetsums.moves import moved
from twosetsums.sets import check_set, is_within, set_of_rests


def check_parted(ring, some, h):
    """Refuse what is no ring, then what is no set, then an h that does not part the ring."""
    check_set(ring, some)
    if not is_within(h, 2, ring) or ring % h != 0:
        raise NoNumber("a whole number from 2 on that goes into the ring is due")


def keepers(ring, some):
    """The set of all numbers by which a set is moved to itself."""
    check_set(ring, some)
    return tuple([number for number in range(ring) if moved(ring, some, number) == some])


def counts_by(some, h):
    """The list, at each rest by h, of how many numbers of a set have it."""
    counts = [0] * h
    for number in some:
        counts[number % h] += 1
    return counts


def whole_parts(ring, some, h):
    """The rising tuple of the rests by h all of whose numbers are in a set."""
    check_parted(ring, some, h)
    counts = counts_by(some, h)
    return tuple([rest for rest in range(h) if counts[rest] == ring // h])


def broken_parts(ring, some, h):
    """The rising tuple of the rests by h of whose numbers some are in a set and some are not."""
    check_parted(ring, some, h)
    counts = counts_by(some, h)
    return tuple([rest for rest in range(h) if 0 < counts[rest] < ring // h])


def rests_by(ring, some, h):
    """The rising tuple of all rests by h that numbers of a set have: a set of the ring of h places."""
    check_parted(ring, some, h)
    return set_of_rests(h, some)
