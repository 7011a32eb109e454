"""The first fault of a text."""

# The kinds of faults, by the document's numbers.
NOT_ENDED = 1
BAD_BYTE = 2
BAD_WORD = 3
BAD_VALUE = 4
NAME_IS_THERE = 5
TOO_MANY = 6
FEW_INTERESTS = 7
NO_RACE = 8


# Raised where it's met, so that nothing behind the first fault is looked at.
class Fault(Exception):
    def __init__(self, kind, place):
        self.kind = kind
        self.place = place
