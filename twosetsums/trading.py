"""Trades between two sets that make no new sums, rows of them, and pairs of sets that are stuck."""

from twosetsums.errors import NoTrades
from twosetsums.sets import check_pair, check_pair_not_empty, check_within, is_within, set_of_rests


def trade(ring, one, other, e):
    """The tuple of both sets behind a trade by the number e."""
    check_pair(ring, one, other)
    check_within(e, 0, ring - 1)
    got = set_of_rests(ring, list(one) + [number + e for number in other])
    kept = tuple([number for number in other if (number + e) % ring in one])
    return (got, kept)


def is_row_of_numbers(ring, thing):
    """Whether a thing is a tuple of numbers of the ring, in any order."""
    return isinstance(thing, tuple) and all([is_within(number, 0, ring - 1) for number in thing])


def sets_behind(ring, one, other, thing):
    """The tuple of both sets behind a row of trades, None where the thing is no such row."""
    check_pair(ring, one, other)
    if not is_row_of_numbers(ring, thing):
        return None
    for e in thing:
        one, other = trade(ring, one, other, e)
        if other == ():
            return None
    return (one, other)


def trades_hold(ring, one, other, thing):
    """Whether a thing is a row of trades of two sets."""
    return sets_behind(ring, one, other, thing) is not None


def ended(ring, one, other, row):
    """The tuple of both sets behind a row of trades."""
    both = sets_behind(ring, one, other, row)
    if both is None:
        raise NoTrades("a row of trades of both sets is due")
    return both


def next_trade(ring, one, other):
    """The least number by which the other set keeps some of its numbers but not all, None where there is none."""
    for e in range(ring):
        kept = trade(ring, one, other, e)[1]
        if 0 < len(kept) < len(other):
            return e
    return None


def is_stuck(ring, one, other):
    """Whether the other set is not () and keeps, by each number, all its numbers or none."""
    check_pair(ring, one, other)
    return other != () and next_trade(ring, one, other) is None


def trades_of(ring, one, other):
    """The row of trades by the least number that parts the other set each time, until both are stuck."""
    check_pair_not_empty(ring, one, other)
    row = []
    e = next_trade(ring, one, other)
    while e is not None:
        row.append(e)
        one, other = trade(ring, one, other, e)
        e = next_trade(ring, one, other)
    return tuple(row)
