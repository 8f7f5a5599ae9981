"""The codings: what stands in the columns of a factor for each of its levels."""

LAST_CODING = 3

# The rows of the polynomial coding, by the number of levels.
POLYNOMIALS = {
    2: ((-1, 1),),
    3: ((-1, 0, 1), (1, -2, 1)),
    4: ((-3, -1, 1, 3), (1, -1, -1, 1), (-1, 3, -3, 1)),
    5: ((-2, -1, 0, 1, 2), (2, -1, -2, -1, 2), (-1, 2, 0, -2, 1), (1, -4, 6, -4, 1)),
}


def treatment_entry(level_count, column, level):
    return 1 if level == column + 1 else 0


def sum_entry(level_count, column, level):
    if level == level_count - 1:
        return -1
    return 1 if level == column else 0


def helmert_entry(level_count, column, level):
    if level <= column:
        return -1
    return column + 1 if level == column + 1 else 0


def polynomial_entry(level_count, column, level):
    return POLYNOMIALS[level_count][column][level]


# By the number of the coding.
ENTRIES = (treatment_entry, sum_entry, helmert_entry, polynomial_entry)


def coded_level(coding, level_count, level):
    """The entries of all columns of a factor for one of its levels."""
    return [ENTRIES[coding](level_count, column, level) for column in range(level_count - 1)]
