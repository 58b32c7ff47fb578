"""What is made of two rolls."""

from clubroll.checks import check_rolls


def union(one, other):
    check_rolls([one, other])
    return sorted(set(one) | set(other))


def both(one, other):
    check_rolls([one, other])
    return sorted(set(one) & set(other))


def less(one, other):
    check_rolls([one, other])
    return sorted(set(one) - set(other))


def apart(one, other):
    check_rolls([one, other])
    return sorted(set(one) ^ set(other))


def pairs(one, other):
    check_rolls([one, other])
    # Both rolls are in order, so the pairs come in theirs without sorting.
    told = []
    for first in one:
        for second in other:
            told.append((first, second))
    return told
