"""The numbers that calls answer, and the forms of their answers."""

DONE = 0
NOT_TAKEN = -1
NO_SUCH_PART = -2
FAULTY = -3
TOO_MANY_PARTS = -5


def told(data):
    return [DONE, len(data)] + data


def told_fault(fault, place):
    return [FAULTY, fault, place]
