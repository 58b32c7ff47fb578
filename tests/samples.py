"""Names, rolls and lists of rolls that several tests use, and the order of names told on its own."""

import functools
import itertools

LETTERS = "abcdefghijklmnopqrstuvwxyz"


def comes_ahead(one, other):
    """The order of point 1, letter by letter, by the letters' places from a to z alone."""
    for left, right in zip(one, other):
        if left != right:
            return LETTERS.index(left) < LETTERS.index(right)
    return len(one) < len(other)


def in_order(names):
    """The names in the order of point 1, without a question to the program or to Python's order of texts."""
    def compared(one, other):
        return comes_ahead(other, one) - comes_ahead(one, other)
    return sorted(names, key=functools.cmp_to_key(compared))


def names_over(letters, longest):
    return [
        "".join(signs)
        for length in range(1, longest + 1)
        for signs in itertools.product(letters, repeat=length)
    ]


def lists_over(names, longest):
    for length in range(longest + 1):
        for chosen in itertools.product(names, repeat=length):
            yield list(chosen)


def rolls_over(names):
    """Every roll that the names can make, the empty one and that of all names too."""
    ordered = in_order(names)
    return [
        [name for name, taken in zip(ordered, choice) if taken]
        for choice in itertools.product((False, True), repeat=len(ordered))
    ]


def many_names(count):
    """So many names in order, of one to three letters, some of them beginnings of others."""
    return in_order(names_over("abkqxyz", 3))[:count]


def difference(told, wanted):
    """None where the two are equal, else where they first differ: assertEqual takes minutes over long lists."""
    if told == wanted:
        return None
    for place, (one, other) in enumerate(zip(told, wanted)):
        if one != other:
            return f"at {place}: told {one!r}, wanted {other!r}"
    return f"told {len(told)} things, wanted {len(wanted)}"


# As many different names as a list of rolls may have, and some more.
MOST = many_names(310)
BEYOND = many_names(330)

# Large lists of rolls, each under a name that a failing test shows.
LARGE = {
    "equal ones": [list(MOST) for place in range(100)],
    "empty ones": [[] for place in range(100)],
    "nothing in common": [MOST[place::100] for place in range(100)],
    "each within the next": [MOST[:3 * place] for place in range(100)],
    "each name on other rolls": [
        [name for number, name in enumerate(MOST, 1) if number >> place % 9 & 1] for place in range(100)
    ],
    "mixed": [
        [name for number, name in enumerate(MOST) if (number * number + 7 * place * number + 3 * place) % 5 < 2]
        for place in range(100)
    ],
    "all but one": [MOST[:place] + MOST[place + 1:] for place in range(100)],
    "empty at the ends": [[]] + [MOST[::place] for place in range(1, 99)] + [[]],
    "one roll": [list(MOST)],
    "somewhat beyond": [BEYOND[place % 7::place % 4 + 1] for place in range(110)],
}

# Lists of names that are no rolls: out of order or with a name twice, at the beginning, in the middle, at the end.
NO_ROLLS = (
    ["ann", "ann"],
    ["ann", "an"],
    ["ao", "ann"],
    ["b", "aaa"],
    ["bea", "ann", "cy", "dot"],
    ["ann", "cy", "bea", "dot"],
    ["ann", "bea", "dot", "cy"],
    ["ann", "ann", "bea", "cy"],
    ["ann", "bea", "bea", "cy"],
    ["ann", "bea", "cy", "cy"],
    ["ann", "bea", "cy", "ann"],
    MOST[:-2] + [MOST[-1], MOST[-2]],
    MOST + [MOST[-1]],
)
