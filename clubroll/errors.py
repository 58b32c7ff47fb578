"""The refusals of Clubroll."""


# The one base of all refusals, so that a caller can take any of them by one name.
class RollError(ValueError):
    pass


# A list of names was handed in where a roll is asked for, and it is no roll.
class NoRoll(RollError):
    pass
