"""The operations 1 to 13: factors, formulas and the model."""

from modelformulas.codings import LAST_CODING
from modelformulas.failures import FormulaFailure
from modelformulas.formulas import read_formula
from modelformulas.models import FACTOR_LIMIT, closure, is_within, ordered_terms, terms_of
from modelformulas.printing import canonical_text, model_text, term_text
from modelformulas.results import HAS_RUNS, MISSING, NAME_TAKEN, OUTSIDE_RANGE, TOO_MANY, counted
from modelformulas.tokens import is_name

FEWEST_LEVELS = 2
MOST_LEVELS = 5
COLUMN_LIMIT = 24


def replace_model(design, model):
    if design.column_count(model) > COLUMN_LIMIT:
        return [TOO_MANY]
    design.model = model
    return [len(terms_of(model))]


def answer_add_factor(design, numbers, rows):
    level_count, coding = numbers
    name = rows[0]
    if not FEWEST_LEVELS <= level_count <= MOST_LEVELS or coding > LAST_CODING or not is_name(name):
        return [OUTSIDE_RANGE]
    if name in design.names:
        return [NAME_TAKEN]
    if len(design.names) >= FACTOR_LIMIT:
        return [TOO_MANY]
    if design.runs:
        return [HAS_RUNS]
    design.add_factor(level_count, coding, name)
    return [len(design.names) - 1]


def answer_set_coding(design, numbers, rows):
    factor, coding = numbers
    if factor >= len(design.codings):
        return [MISSING]
    if coding > LAST_CODING:
        return [OUTSIDE_RANGE]
    previous = design.codings[factor]
    design.codings[factor] = coding
    return [previous]


def answer_check(design, numbers, rows):
    try:
        read_formula(rows[0], design.names)
    except FormulaFailure as failure:
        return [failure.reason, failure.position]
    return [0]


def answer_set_model(design, numbers, rows):
    try:
        model = design.model_of(rows[0])
    except FormulaFailure:
        return [OUTSIDE_RANGE]
    return replace_model(design, model)


def answer_terms(design, numbers, rows):
    return counted(ordered_terms(design.model))


def answer_term_text(design, numbers, rows):
    terms = ordered_terms(design.model)
    if numbers[0] >= len(terms):
        return [MISSING]
    return counted(term_text(terms[numbers[0]], design.names))


def answer_format(design, numbers, rows):
    try:
        steps = read_formula(rows[0], design.names)
    except FormulaFailure:
        return [OUTSIDE_RANGE]
    return counted(canonical_text(steps, design.names))


def answer_model_text(design, numbers, rows):
    return counted(model_text(design.model, design.names))


def answer_degrees(design, numbers, rows):
    terms = ordered_terms(design.model)
    if numbers[0] >= len(terms):
        return [MISSING]
    return [design.degrees_of(terms[numbers[0]])]


def answer_total_degrees(design, numbers, rows):
    return [design.column_count(design.model)]


def answer_is_closed(design, numbers, rows):
    return [1 if closure(design.model) == design.model else 0]


def answer_close(design, numbers, rows):
    return replace_model(design, closure(design.model))


def answer_compare(design, numbers, rows):
    try:
        first = design.model_of(rows[0])
        second = design.model_of(rows[1])
    except FormulaFailure:
        return [OUTSIDE_RANGE]
    if first == second:
        return [0]
    if is_within(first, second):
        return [1]
    if is_within(second, first):
        return [2]
    return [3]


FORMULA_OPERATIONS = {
    1: answer_add_factor,
    2: answer_set_coding,
    3: answer_check,
    4: answer_set_model,
    5: answer_terms,
    6: answer_term_text,
    7: answer_format,
    8: answer_model_text,
    9: answer_degrees,
    10: answer_total_degrees,
    11: answer_is_closed,
    12: answer_close,
    13: answer_compare,
}
