"""Sets moved and stretched round a ring, and sets alike by moving."""

from twosetsums.errors import NoNumber
from twosetsums.sets import check_pair, check_set, is_whole, set_of_rests


def check_whole(number):
    """Refuse what is no whole number."""
    if not is_whole(number):
        raise NoNumber("a whole number is due")


def moved(ring, some, number):
    """The set of the rests of each number of a set and the number together."""
    check_set(ring, some)
    check_whole(number)
    return set_of_rests(ring, [place + number for place in some])


def stretched(ring, some, number):
    """The set of the rests of each number of a set times the number."""
    check_set(ring, some)
    check_whole(number)
    return set_of_rests(ring, [place * number for place in some])


def least_moved(ring, some):
    """The least, as tuples rise, of all sets alike by moving to a set."""
    check_set(ring, some)
    return min([moved(ring, some, number) for number in range(ring)])


def move_to(ring, one, other):
    """The least number from 0 on by which the one set is moved to the other, None where there is none."""
    check_pair(ring, one, other)
    for number in range(ring):
        if moved(ring, one, number) == other:
            return number
    return None
