"""From the steps of a formula to its terms as a model."""

from modelformulas.models import EMPTY_MODEL, INTERCEPT_MODEL, combined, factor_model, raised


def with_intercept(model):
    """The expansion of a formula that is no sum, and its terms as a model."""
    return model, model | INTERCEPT_MODEL


def combined_operands(symbol, first, second):
    """What an operator makes of two operands, each an expansion and terms as a model."""
    expansion = combined(symbol, first[0], second[0])
    if symbol in ("+", "-"):
        return expansion, combined(symbol, first[1], second[0])
    return with_intercept(expansion)


def terms_as_model(steps):
    operands = []
    for kind, value in steps:
        if kind == "factor":
            operands.append(with_intercept(factor_model(value)))
        elif kind == "number":
            operands.append(with_intercept(INTERCEPT_MODEL if value == 1 else EMPTY_MODEL))
        elif kind == "^":
            base = operands.pop()
            operands.append(with_intercept(raised(base[0], value)))
        else:
            second = operands.pop()
            first = operands.pop()
            operands.append(combined_operands(kind, first, second))
    return operands[0][1]
