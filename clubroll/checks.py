"""The one place at which a list of names that is no roll is refused."""

from clubroll.errors import NoRoll
from clubroll.rolls import is_roll


# Called ahead of all else, so that a list is refused also where the answer would not depend on it.
def check_rolls(rolls):
    for names in rolls:
        if not is_roll(names):
            raise NoRoll(f"no roll: {names!r}")
