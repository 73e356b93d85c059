"""All sets of a size in their order: how many they are, the one at a place, and the place of one."""

from twosetsums.sets import check_ring, check_set, check_within


def picks_many(places, many):
    """In how many ways so many of these places are picked."""
    told = 1
    for turn in range(many):
        # Behind each turn it is the count for so many as are picked by then, so nothing is left over here.
        told = told * (places - turn) // (turn + 1)
    return told


def sets_many(ring, a):
    """How many sets of a numbers there are."""
    check_ring(ring)
    check_within(a, 0, ring)
    return picks_many(ring, a)


def nth_set(ring, a, number):
    """The set at a place, from 0, among those of a numbers, as tuples rise."""
    check_within(number, 0, sets_many(ring, a) - 1)
    told = []
    place = 0
    left = number
    while len(told) < a:
        # So many sets go on with this place; where the one that is due is none of them, all are passed over.
        begun = picks_many(ring - place - 1, a - len(told) - 1)
        if left < begun:
            told.append(place)
        else:
            left -= begun
        place += 1
    return tuple(told)


def number_of(ring, some):
    """The place of a set, from 0, among those of as many numbers."""
    check_set(ring, some)
    number = 0
    behind = 0
    for at, taken in enumerate(some):
        for place in range(behind, taken):
            number += picks_many(ring - place - 1, len(some) - at - 1)
        behind = taken + 1
    return number
