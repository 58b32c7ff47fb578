"""The shares that the names of some rolls are parted into, and the rolls told again from them."""

from clubroll.checks import check_rolls
from clubroll.rolls import rolled


# The rolls are walked from the first to the last, so each name's places come from the least to the greatest.
def places_by_name(rolls):
    places = {}
    for place in range(len(rolls)):
        for name in rolls[place]:
            places[name] = places.get(name, []) + [place]
    return places


def shares(rolls):
    check_rolls(rolls)
    places = places_by_name(rolls)
    # A dict keeps the order in which keys came, and a share comes with its first name.
    names_at = {}
    for name in sorted(places):
        # A key can't be a list.
        key = tuple(places[name])
        names_at[key] = names_at.get(key, []) + [name]
    return [(list(key), names_at[key]) for key in names_at]


def roll_at(parts, place):
    names = []
    for places, roll in parts:
        if place in places:
            names.extend(roll)
    # The shares come in the order of their first names alone: their later names may lie among one another.
    return rolled(names)


def rolls_from(parts, count):
    return [roll_at(parts, place) for place in range(count)]
