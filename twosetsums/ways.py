"""In how many ways each number of a ring is a sum of two sets."""

from twosetsums.sets import check_pair, check_within


def ways(ring, one, other):
    """The list, at c, of how many pairs of a number of the one and one of the other have c as the rest of their sum."""
    check_pair(ring, one, other)
    counts = [0] * ring
    for a in one:
        for b in other:
            counts[(a + b) % ring] += 1
    return counts


def often(ring, one, other, t):
    """The set of the numbers that at least t pairs have as the rest of their sum."""
    counts = ways(ring, one, other)
    check_within(t, 1, ring)
    return tuple([c for c in range(ring) if counts[c] >= t])


def first_pair(ring, one, other, c):
    """The first pair, as tuples rise, whose sum has the rest c, None where there is none."""
    check_pair(ring, one, other)
    check_within(c, 0, ring - 1)
    # Both sets rise, so the pairs come rising here.
    for a in one:
        for b in other:
            if (a + b) % ring == c:
                return (a, b)
    return None
