"""Pairs of sets on a prime ring that have as few sums as can be, and why they have."""

from twosetsums.errors import NoPrime
from twosetsums.sets import check_pair_not_empty, check_ring, is_whole
from twosetsums.steps import steps_of
from twosetsums.sums import lacking, sums

PRIMES = (2, 3, 5, 7, 11, 13, 17, 19, 23)


def check_prime_pair(prime, one, other):
    """Refuse what is no ring, then no prime, then what is no set, then ()."""
    check_ring(prime)
    if prime not in PRIMES:
        raise NoPrime("a prime is due")
    check_pair_not_empty(prime, one, other)


def has_single(one, other):
    """Whether one of both sets has one number."""
    return len(one) == 1 or len(other) == 1


def fewest(prime, one, other):
    """How many sums as few as can be are."""
    return min(len(one) + len(other) - 1, prime)


def more_than_fewest(prime, one, other):
    """How many more sums both sets have than as few as can be."""
    return len(sums(prime, one, other)) - fewest(prime, one, other)


def common_steps(prime, one, other):
    """The rising list of the steps that both sets have."""
    known = steps_of(prime, other)
    return [d for d in steps_of(prime, one) if d in known]


def kind_of(prime, one, other):
    """The tuple of the word, and number, that tells why two sets have as few sums as can be, or how many more."""
    check_prime_pair(prime, one, other)
    if has_single(one, other):
        return ("one",)
    if fewest(prime, one, other) == prime:
        return ("all",)
    more = more_than_fewest(prime, one, other)
    if more > 0:
        return ("more", more)
    lacked = lacking(prime, one, other)
    if len(lacked) == 1:
        return ("lack", lacked[0])
    return ("step", common_steps(prime, one, other)[0])


def numbered_kind_holds(prime, one, other, word, number):
    """Whether the word and the whole number tell truly of two sets."""
    if word == "more":
        return number > 0 and number == more_than_fewest(prime, one, other)
    if word == "lack":
        return lacking(prime, one, other) == (number,)
    if word == "step":
        return number in common_steps(prime, one, other)
    return False


def kind_holds(prime, one, other, thing):
    """Whether a thing is a tuple that tells truly of two sets, whatever else could be told of them."""
    check_prime_pair(prime, one, other)
    if thing == ("one",):
        return has_single(one, other)
    if thing == ("all",):
        return fewest(prime, one, other) == prime
    # A truth equals a number, so the kind of the number is looked at ahead of its worth.
    if not isinstance(thing, tuple) or len(thing) != 2 or not is_whole(thing[1]):
        return False
    return numbered_kind_holds(prime, one, other, thing[0], thing[1])
