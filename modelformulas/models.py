"""Terms and models as whole numbers.

Bit f of a term says whether factor f belongs to it.
Bit t of a model says whether the term t belongs to it.
"""

FACTOR_LIMIT = 6
TERM_LIMIT = 64

EMPTY_MODEL = 0
INTERCEPT_MODEL = 1

# For each factor, the model of all terms with this factor.
ALL_TERMS_WITH = (
    0xAAAAAAAAAAAAAAAA,
    0xCCCCCCCCCCCCCCCC,
    0xF0F0F0F0F0F0F0F0,
    0xFF00FF00FF00FF00,
    0xFFFF0000FFFF0000,
    0xFFFFFFFF00000000,
)


def factors_of(term):
    return [factor for factor in range(FACTOR_LIMIT) if term >> factor & 1]


def terms_of(model):
    return [term for term in range(TERM_LIMIT) if model >> term & 1]


def term_order(term):
    factors = factors_of(term)
    return len(factors), factors


def ordered_terms(model):
    """The terms of a model, in the order of a model."""
    return sorted(terms_of(model), key=term_order)


def factor_model(factor):
    """The model whose only term is the set of this factor."""
    return 1 << (1 << factor)


def factor_union(model):
    """The term of all factors that occur in a model."""
    union = 0
    for term in terms_of(model):
        union = union | term
    return union


def united_with(model, term):
    """The unions of one term with every term of a model."""
    for factor in factors_of(term):
        having = model & ALL_TERMS_WITH[factor]
        lacking = model ^ having
        # Adding factor f to a term adds 2^f to it, so its bit moves by as many places.
        model = having | lacking << (1 << factor)
    return model


def both_models(first, second):
    return first | second


def without_terms(first, second):
    return first ^ (first & second)


def interaction(first, second):
    unions = EMPTY_MODEL
    for term in terms_of(first):
        unions = unions | united_with(second, term)
    return unions


def crossing(first, second):
    return first | second | interaction(first, second)


def nesting(first, second):
    return first | united_with(second, factor_union(first))


COMBINATIONS = {
    "+": both_models,
    "-": without_terms,
    ":": interaction,
    "*": crossing,
    "/": nesting,
}


def combined(symbol, first, second):
    """What an operator between two operands makes of their models."""
    return COMBINATIONS[symbol](first, second)


def raised(model, exponent):
    """The model crossed with itself, as many times as the exponent tells."""
    result = model
    for step in range(1, exponent):
        result = crossing(result, model)
    return result


def closure(model):
    for factor in range(FACTOR_LIMIT):
        # A term without factor f has its bit 2^f places below that of the term with it.
        model = model | (model & ALL_TERMS_WITH[factor]) >> (1 << factor)
    return model


def is_within(first, second):
    """Whether every term of the first model belongs to the second one."""
    return first & second == first
