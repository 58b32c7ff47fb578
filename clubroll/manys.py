"""What is told of any number of rolls."""

from clubroll.checks import check_rolls


# A name stands on a roll once at most, so each time that it is met is another roll.
def roll_counts(rolls):
    counts = {}
    for roll in rolls:
        for name in roll:
            counts[name] = counts.get(name, 0) + 1
    return counts


def in_any(rolls):
    check_rolls(rolls)
    return sorted(roll_counts(rolls))


# Of no rolls no name is told, though each name is on all of them: only names that are met are counted.
def in_all(rolls):
    return in_just(rolls, len(rolls))


def in_just(rolls, count):
    check_rolls(rolls)
    counts = roll_counts(rolls)
    return [name for name in sorted(counts) if counts[name] == count]
