"""The calls on one object, and the answers to them."""

from modelformulas.formula_operations import FORMULA_OPERATIONS
from modelformulas.results import NOT_CREATED, counted
from modelformulas.run_operations import RUN_OPERATIONS
from modelformulas.state import Design

CREATE = 0

# For each operation, how many whole numbers and how many rows a call has.
SHAPES = {
    0: (0, 0),
    1: (2, 1),
    2: (2, 0),
    3: (0, 1),
    4: (0, 1),
    5: (0, 0),
    6: (1, 0),
    7: (0, 1),
    8: (0, 0),
    9: (1, 0),
    10: (0, 0),
    11: (0, 0),
    12: (0, 0),
    13: (0, 2),
    14: (1, 0),
    15: (0, 1),
    16: (1, 0),
    17: (0, 0),
    18: (0, 0),
    19: (1, 0),
    20: (0, 1),
    21: (0, 0),
    22: (0, 0),
    23: (0, 0),
    24: (0, 0),
    25: (0, 0),
    26: (0, 1),
    27: (0, 0),
}


def read_call(calls, start):
    """The operation, the numbers and the rows of the call at start, and the position behind it."""
    operation = calls[start]
    number_count, row_count = SHAPES[operation]
    position = start + 1 + number_count
    numbers = calls[start + 1:position]
    rows = []
    for row in range(row_count):
        end = position + 1 + calls[position]
        rows.append(calls[position + 1:end])
        position = end
    return operation, numbers, rows, position


def created_answer(design, operation, numbers, rows):
    """The answer to a call on an object that has been created."""
    if operation in FORMULA_OPERATIONS:
        return FORMULA_OPERATIONS[operation](design, numbers, rows)
    return RUN_OPERATIONS[operation](design, numbers, rows)


def answers(calls):
    """The answers to the calls on one new object, each with its length before it."""
    design = None
    told = []
    position = 0
    while position < len(calls):
        operation, numbers, rows, position = read_call(calls, position)
        if operation == CREATE:
            design = Design()
            answer = [0]
        elif design is None:
            answer = [NOT_CREATED]
        else:
            answer = created_answer(design, operation, numbers, rows)
        told.extend(counted(answer))
    return told
