"""Rows by a step on a ring, the runs of a set by it, and the gaps between them."""

from twosetsums.sets import check_ring, check_set, check_within, set_of_rests


def check_step(ring, d):
    """Refuse what is no number of the ring but 0, on a ring that was looked at already."""
    check_within(d, 1, ring - 1)


def row_of(ring, first, d, many):
    """The set of that many numbers, first and each next one by d, each once where they come again."""
    check_ring(ring)
    check_within(first, 0, ring - 1)
    check_step(ring, d)
    check_within(many, 0, ring)
    return set_of_rests(ring, [first + d * turn for turn in range(many)])


def round_many(ring, d):
    """How many numbers come one behind the other by d till the first comes again."""
    many = 1
    while many * d % ring != 0:
        many += 1
    return many


def run_many(ring, some, d, first):
    """How many numbers of a set come one behind the other by d, from first on, in one round at most."""
    many = 0
    while many < round_many(ring, d) and (first + many * d) % ring in some:
        many += 1
    return many


def runs_by(ring, some, d):
    """The rising list of the runs (first, many) of a set by d."""
    check_set(ring, some)
    check_step(ring, d)
    whole = round_many(ring, d)
    runs = []
    for first in some:
        many = run_many(ring, some, d, first)
        # There are m // whole rounds, and the least numbers of them are those from 0 to one less.
        least = many == whole and first < ring // whole
        if least or (first - d) % ring not in some:
            runs.append((first, many))
    return runs


def longest_run(ring, some, d):
    """The greatest many of a set's runs by d, 0 where it has none."""
    return max([many for first, many in runs_by(ring, some, d)], default=0)


def gap_behind(ring, some, d, last):
    """How many numbers that are not in a set come one behind the other by d, behind its number last."""
    many = 0
    while (last + (many + 1) * d) % ring not in some:
        many += 1
    return many


def gaps(ring, some, d):
    """The list, by the runs that do not come round, of how many numbers lie behind each till the next run."""
    runs = runs_by(ring, some, d)
    whole = round_many(ring, d)
    return [gap_behind(ring, some, d, first + (many - 1) * d) for first, many in runs if many < whole]
