"""Sets that are nearly whole: made of whole parts of the ring, but for one part at most."""

from twosetsums.errors import NoNumber
from twosetsums.keeping import broken_parts, whole_parts
from twosetsums.sets import check_set


def nearly(ring, some):
    """The rising list of the h below the ring by which at most one part is broken in a set."""
    check_set(ring, some)
    parting = [h for h in range(2, ring) if ring % h == 0]
    return [h for h in parting if len(broken_parts(ring, some, h)) <= 1]


def split(ring, some, h):
    """The tuple of two sets: the numbers of a set's whole parts by h, and those of its broken one."""
    # A truth equals 0 or 1 alone, and nearly tells neither; so none is taken for a number here.
    if h not in nearly(ring, some):
        raise NoNumber("one of the numbers that nearly tells is due")
    rests = whole_parts(ring, some, h)
    whole = tuple([number for number in some if number % h in rests])
    left = tuple([number for number in some if number % h not in rests])
    return (whole, left)
