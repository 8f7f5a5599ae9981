"""What every operation can answer: the refusals, and lists behind their lengths."""

MISSING = -2
NOT_CREATED = -11
HAS_RUNS = -16
NAME_TAKEN = -17
OUTSIDE_RANGE = -22
TOO_MANY = -28


def counted(values):
    return [len(values)] + values
