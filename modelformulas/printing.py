"""The texts of formulas, terms and models, as lists of bytes."""

from modelformulas.formulas import LEVELS, POWER_LEVEL, PRIMARY_LEVEL
from modelformulas.models import factors_of, ordered_terms


def bytes_of(written):
    return [ord(sign) for sign in written]


def joined(parts, separator):
    """The parts, with the separator between each two of them."""
    result = []
    for place, part in enumerate(parts):
        if place > 0:
            result.extend(separator)
        result.extend(part)
    return result


def enclosed(operand, least_level):
    """The text of an operand, in parentheses if it binds less tightly than least_level."""
    text, level = operand
    if level >= least_level:
        return text
    return bytes_of("(") + text + bytes_of(")")


def power_text(base, exponent):
    return enclosed(base, PRIMARY_LEVEL) + bytes_of(f"^{exponent}")


def operator_text(symbol, first, second):
    level = LEVELS[symbol]
    separator = bytes_of(symbol if symbol == ":" else f" {symbol} ")
    # Operators associate to the left: on the right the same level needs parentheses.
    return joined([enclosed(first, level), enclosed(second, level + 1)], separator)


def canonical_text(steps, names):
    """The canonical text of the formula with these steps."""
    operands = []
    for kind, value in steps:
        if kind == "factor":
            operands.append((names[value], PRIMARY_LEVEL))
        elif kind == "number":
            operands.append((bytes_of(str(value)), PRIMARY_LEVEL))
        elif kind == "^":
            base = operands.pop()
            operands.append((power_text(base, value), POWER_LEVEL))
        else:
            second = operands.pop()
            first = operands.pop()
            operands.append((operator_text(kind, first, second), LEVELS[kind]))
    return operands[0][0]


def term_text(term, names):
    if term == 0:
        return bytes_of("1")
    return joined([names[factor] for factor in factors_of(term)], bytes_of(":"))


def model_text(model, names):
    if model == 0:
        return bytes_of("0")
    return joined([term_text(term, names) for term in ordered_terms(model)], bytes_of(" + "))
