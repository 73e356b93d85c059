"""Sets on a ring: rising tuples of its numbers, and the looks that every module takes at what is handed in."""

from twosetsums.errors import Apart, NoNumber, NoRing, NoSet

LEAST_RING = 2
GREATEST_RING = 24


def is_whole(thing):
    """Whether a thing is a whole number."""
    # Python counts the truths among the ints; the document does not.
    return isinstance(thing, int) and not isinstance(thing, bool)


def is_within(thing, least, greatest):
    """Whether a thing is a whole number from the least to the greatest."""
    return is_whole(thing) and least <= thing <= greatest


def check_within(number, least, greatest):
    """Refuse what is no whole number from the least to the greatest."""
    if not is_within(number, least, greatest):
        raise NoNumber(f"a whole number from {least} to {greatest} is due")


def check_ring(ring):
    """Refuse what is no ring."""
    if not is_within(ring, LEAST_RING, GREATEST_RING):
        raise NoRing("a ring is a whole number from 2 to 24")


def check_set(ring, some):
    """Refuse what is no ring, then what is no set of it."""
    if not is_set(ring, some):
        raise NoSet("a set is a rising tuple of numbers of the ring")


def check_pair(ring, one, other):
    """Refuse what is no ring, then what is no set of it, the one ahead of the other."""
    check_set(ring, one)
    check_set(ring, other)


def check_pair_not_empty(ring, one, other):
    """Refuse as check_pair does, then a pair of sets one of which is ()."""
    check_pair(ring, one, other)
    if one == () or other == ():
        raise Apart("a set with numbers is due")


def set_of_rests(ring, numbers):
    """The set of the rests of whole numbers, on a ring that was looked at already."""
    return tuple(sorted({number % ring for number in numbers}))


def is_set(ring, thing):
    """Whether a thing is a set of the ring."""
    check_ring(ring)
    if not isinstance(thing, tuple):
        return False
    last = -1
    for number in thing:
        if not is_whole(number) or number <= last or number >= ring:
            return False
        last = number
    return True


def set_of(ring, things):
    """The set of the rests of a list of whole numbers."""
    check_ring(ring)
    if not isinstance(things, list) or not all([is_whole(thing) for thing in things]):
        raise NoSet("a set is made of a list of whole numbers")
    return set_of_rests(ring, things)


def others(ring, some):
    """The set of all numbers of the ring that are not in a set."""
    check_set(ring, some)
    return tuple([number for number in range(ring) if number not in some])
