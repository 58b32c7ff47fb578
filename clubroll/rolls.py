"""What a roll is, and the roll that any list of names is made into."""

# Names hold letters from a to z alone, so Python's own order of texts is the order of a dictionary.


def is_roll(names):
    for place in range(1, len(names)):
        # Strictly behind: a name that stands twice makes the list no roll.
        if names[place] <= names[place - 1]:
            return False
    return True


def rolled(names):
    return sorted(set(names))
