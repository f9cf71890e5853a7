"""The refusals, one error class for each number that a call may refuse with."""


# -1: a place isn't one, or nothing is at it.
class NoPlace(Exception):
    pass


# -2: an argument that the call doesn't take.
class WrongArgument(Exception):
    pass


# -7: more states, pairs or bundles than are allowed.
class TooMany(Exception):
    pass
