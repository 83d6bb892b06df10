"""The numbers of the refusals, and the errors that stand for those found deep within a call."""

NOT_SUCH = -1
TOO_MUCH = -2
NOT_HAD = -3
NOT_THERE = -4
NO_RULES = -5
FAULT = -6
TOO_MANY_WAYS = -9


# A text has more of something than it may have.
class TooMuch(Exception):
    pass


# A text is wrong from this place on.
class Fault(Exception):
    def __init__(self, place):
        self.place = place
