"""What is wrong with a text that is not a formula."""

NO_TOKEN = 1
MISFIT = 2
UNKNOWN_NAME = 3
BAD_EXPONENT = 4


class FormulaFailure(Exception):
    """The first failure of a text: its reason, and the position of a byte."""

    def __init__(self, reason, position):
        Exception.__init__(self, reason, position)
        self.reason = reason
        self.position = position
