"""The refusals, an error class for each; the desk tells their numbers."""


# -1
class OutOfRange(Exception):
    pass


# -2
class NothingThere(Exception):
    pass


# -3
class NotABlock(Exception):
    pass


# -4
class NotInOrder(Exception):
    pass


# -5
class NoRoom(Exception):
    pass


# No number stands for this one: it is no answer, so it is not taken anywhere.
class NotACall(Exception):
    pass
