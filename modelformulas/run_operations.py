"""The operations 14 to 27: codings, runs and the model matrix."""

from modelformulas.matrices import aliased_flags, flattened, information, information_determinant, is_combination, rank
from modelformulas.models import terms_of
from modelformulas.results import MISSING, OUTSIDE_RANGE, TOO_MANY, counted

RUN_LIMIT = 24


def combination_count(level_counts):
    count = 1
    for level_count in level_counts:
        count *= level_count
    return count


def with_each_level(runs, level_count):
    """Each run with each level of one more factor, which varies fastest."""
    longer = []
    for run in runs:
        longer.extend([run + [level] for level in range(level_count)])
    return longer


def all_combinations(level_counts):
    runs = [[]]
    for level_count in level_counts:
        runs = with_each_level(runs, level_count)
    return runs


def answer_coding(design, numbers, rows):
    factor = numbers[0]
    if factor >= len(design.names):
        return [MISSING]
    level_count = design.level_counts[factor]
    entries = flattened([design.level_entries(factor, level) for level in range(level_count)])
    return [level_count, level_count - 1] + entries


def answer_add_run(design, numbers, rows):
    if not design.is_run(rows[0]):
        return [OUTSIDE_RANGE]
    if len(design.runs) >= RUN_LIMIT:
        return [TOO_MANY]
    design.runs.append(rows[0])
    return [len(design.runs)]


def answer_remove_run(design, numbers, rows):
    if numbers[0] >= len(design.runs):
        return [MISSING]
    design.runs.pop(numbers[0])
    return [len(design.runs)]


def answer_full_factorial(design, numbers, rows):
    if combination_count(design.level_counts) > RUN_LIMIT:
        return [TOO_MANY]
    design.runs = all_combinations(design.level_counts)
    return [len(design.runs)]


def answer_clear_runs(design, numbers, rows):
    run_count = len(design.runs)
    design.runs = []
    return [run_count]


def answer_get_run(design, numbers, rows):
    if numbers[0] >= len(design.runs):
        return [MISSING]
    return counted(design.runs[numbers[0]])


def answer_row(design, numbers, rows):
    if not design.is_run(rows[0]):
        return [OUTSIDE_RANGE]
    return counted(design.row_of(rows[0]))


def answer_matrix(design, numbers, rows):
    return [len(design.runs), design.column_count(design.model)] + flattened(design.matrix())


def answer_rank(design, numbers, rows):
    return [rank(design.matrix(), design.column_count(design.model))]


def answer_aliased(design, numbers, rows):
    return counted(aliased_flags(design.matrix(), design.column_count(design.model)))


def answer_information(design, numbers, rows):
    column_count = design.column_count(design.model)
    return [column_count] + flattened(information(design.matrix(), column_count))


def answer_determinant(design, numbers, rows):
    return [information_determinant(design.matrix(), design.column_count(design.model))]


def answer_is_estimable(design, numbers, rows):
    column_count = design.column_count(design.model)
    if len(rows[0]) != column_count:
        return [OUTSIDE_RANGE]
    return [1 if is_combination(rows[0], design.matrix(), column_count) else 0]


def answer_summary(design, numbers, rows):
    term_count = len(terms_of(design.model))
    return [len(design.names), term_count, design.column_count(design.model), len(design.runs)]


RUN_OPERATIONS = {
    14: answer_coding,
    15: answer_add_run,
    16: answer_remove_run,
    17: answer_full_factorial,
    18: answer_clear_runs,
    19: answer_get_run,
    20: answer_row,
    21: answer_matrix,
    22: answer_rank,
    23: answer_aliased,
    24: answer_information,
    25: answer_determinant,
    26: answer_is_estimable,
    27: answer_summary,
}
