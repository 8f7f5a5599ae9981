"""Matrices as lists of rows, all in whole numbers.

A matrix without rows still has columns, so their number is handed in beside it.
"""


def products(first, second):
    """Every product of two entries; the place in the first list varies slowest."""
    result = []
    for entry in first:
        result.extend([entry * other for other in second])
    return result


def flattened(matrix):
    """The entries, row by row."""
    entries = []
    for row in matrix:
        entries.extend(row)
    return entries


def first_with(matrix, column):
    """The place of the first row with an entry other than 0 in this column, or None."""
    for place, row in enumerate(matrix):
        if row[column] != 0:
            return place
    return None


def reduced(row, pivot_row, column, divisor):
    """A row made 0 in the column of the pivot."""
    pivot = pivot_row[column]
    multiple = row[column]
    return [(pivot * entry - multiple * other) // divisor for entry, other in zip(row, pivot_row, strict=True)]


def pivots(matrix, column_count):
    """The columns that are no linear combinations of earlier ones, each with its pivot.

    This is Bareiss' elimination: every entry that it makes is a minor of the matrix, so
    dividing by the pivot before leaves no remainder, and no fractions are needed.
    """
    found = []
    left = matrix
    divisor = 1
    for column in range(column_count):
        place = first_with(left, column)
        if place is not None:
            pivot_row = left[place]
            others = left[:place] + left[place + 1:]
            left = [reduced(row, pivot_row, column, divisor) for row in others]
            divisor = pivot_row[column]
            found.append((column, divisor))
    return found


def rank(matrix, column_count):
    return len(pivots(matrix, column_count))


def aliased_flags(matrix, column_count):
    """For each column, 1 if it is a linear combination of earlier ones, else 0."""
    independent = [column for column, pivot in pivots(matrix, column_count)]
    return [0 if column in independent else 1 for column in range(column_count)]


def product_sum(first, second):
    return sum([entry * other for entry, other in zip(first, second, strict=True)])


def column_of(matrix, column):
    return [row[column] for row in matrix]


def information(matrix, column_count):
    """The product of the transposed matrix with the matrix."""
    columns = [column_of(matrix, column) for column in range(column_count)]
    result = []
    for first in columns:
        result.append([product_sum(first, second) for second in columns])
    return result


def information_determinant(matrix, column_count):
    found = pivots(information(matrix, column_count), column_count)
    if len(found) < column_count:
        return 0
    # An information matrix with all its pivots is positive definite: none of its leading
    # minors is 0, so no rows changed places, and the last pivot has the right sign.
    return found[-1][1] if found else 1


def is_combination(vector, matrix, column_count):
    """Whether a vector is a linear combination of the rows."""
    return rank(matrix + [vector], column_count) == rank(matrix, column_count)
