"""Reading a formula into steps.

The steps are the formula with each operator behind its operands:
("factor", f), ("number", 0 or 1), ("^", exponent), and (symbol, None) for the others.
In this order loops can go through a formula, however deep its parentheses are.
"""

from modelformulas.failures import BAD_EXPONENT, FormulaFailure, MISFIT, UNKNOWN_NAME
from modelformulas.tokens import read_tokens

GREATEST_EXPONENT = 6

# The levels of the grammar: what has the higher level binds more tightly.
LEVELS = {"+": 1, "-": 1, "*": 2, "/": 2, ":": 3}
LOWEST_LEVEL = 1
POWER_LEVEL = 4
PRIMARY_LEVEL = 5

# What may come next while a formula is read.
OPERAND = 0
EXPONENT = 1
BEHIND_PRIMARY = 2
BEHIND_POWER = 3


class FormulaReader:
    """Takes the tokens of one formula from left to right."""

    def __init__(self, names):
        self.names = names
        self.steps = []
        # Operators whose right operand is not complete, and open parentheses.
        self.waiting = []
        self.expected = OPERAND

    def take(self, kind, value, position):
        if self.expected == OPERAND:
            self.take_operand(kind, value, position)
        elif self.expected == EXPONENT:
            self.take_exponent(kind, value, position)
        else:
            self.take_behind_operand(kind, position)

    def take_operand(self, kind, value, position):
        if kind == "(":
            self.waiting.append("(")
        elif kind == "name":
            if value not in self.names:
                raise FormulaFailure(UNKNOWN_NAME, position)
            self.steps.append(("factor", self.names.index(value)))
            self.expected = BEHIND_PRIMARY
        elif kind == "number" and value <= 1:
            self.steps.append(("number", value))
            self.expected = BEHIND_PRIMARY
        else:
            raise FormulaFailure(MISFIT, position)

    def take_exponent(self, kind, value, position):
        if kind != "number":
            raise FormulaFailure(MISFIT, position)
        if not 1 <= value <= GREATEST_EXPONENT:
            raise FormulaFailure(BAD_EXPONENT, position)
        self.steps.append(("^", value))
        self.expected = BEHIND_POWER

    def take_behind_operand(self, kind, position):
        if kind in LEVELS:
            self.place_waiting(LEVELS[kind])
            self.waiting.append(kind)
            self.expected = OPERAND
        elif kind == "^" and self.expected == BEHIND_PRIMARY:
            self.expected = EXPONENT
        elif kind == ")":
            self.close_parenthesis(position)
        elif kind == "end":
            self.finish(position)
        else:
            raise FormulaFailure(MISFIT, position)

    def place_waiting(self, level):
        """Makes steps of the waiting operators that bind at least as tightly as level."""
        while self.waiting and self.waiting[-1] != "(" and LEVELS[self.waiting[-1]] >= level:
            self.steps.append((self.waiting.pop(), None))

    def close_parenthesis(self, position):
        self.place_waiting(LOWEST_LEVEL)
        if not self.waiting:
            raise FormulaFailure(MISFIT, position)
        self.waiting.pop()
        self.expected = BEHIND_PRIMARY

    def finish(self, position):
        self.place_waiting(LOWEST_LEVEL)
        if self.waiting:
            raise FormulaFailure(MISFIT, position)


def read_formula(text, names):
    """The steps of a formula; FormulaFailure if the text is none."""
    reader = FormulaReader(names)
    for kind, value, position in read_tokens(text):
        reader.take(kind, value, position)
    return reader.steps
