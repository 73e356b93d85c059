"""Sums of several sets, one number of each, and the first numbers that make one of them."""

from twosetsums.errors import NoList
from twosetsums.sets import check_ring, check_within, is_set
from twosetsums.sums import sums

MOST_SETS = 5


def check_sets(ring, things):
    """Refuse what is no ring, then what is no list of one to five sets of it."""
    check_ring(ring)
    if not isinstance(things, list) or not 1 <= len(things) <= MOST_SETS:
        raise NoList(-1)
    for at, thing in enumerate(things):
        if not is_set(ring, thing):
            raise NoList(at)


def sums_of_each(ring, some_sets):
    """The set of the rests of all sums of one number of each set, (0,) where there are no sets."""
    told = (0,)
    for some in some_sets:
        told = sums(ring, told, some)
    return told


def sum_all(ring, things):
    """The set of the rests of all sums of one number of each set of a list."""
    check_sets(ring, things)
    return sums_of_each(ring, things)


def ends(ring, things):
    """The list of how many sums the first set, the first two, and so on have."""
    check_sets(ring, things)
    return [len(sums_of_each(ring, things[:many])) for many in range(1, len(things) + 1)]


def choice(ring, things, c):
    """The first tuple of one number of each set whose sum has the rest c, None where there is none."""
    check_sets(ring, things)
    check_within(c, 0, ring - 1)
    if c not in sums_of_each(ring, things):
        return None
    told = []
    due = c
    for at, some in enumerate(things):
        # A number may be taken where the sets behind can make up what is due then, so none is taken back.
        behind = sums_of_each(ring, things[at + 1:])
        taken = min([number for number in some if (due - number) % ring in behind])
        told.append(taken)
        due -= taken
    return tuple(told)
