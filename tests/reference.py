"""A second reading of the document, by other means, to compare answers with.

It reads by recursive descent, keeps models as sets of sets of factor names, and
computes with fractions.
"""

import re
from fractions import Fraction
from itertools import combinations, product
from math import prod

TOKEN = re.compile(r"[a-z][a-z0-9_]*|[0-9]+|[-+*/:^()]")


class Fault(Exception):
    pass


def tokens_of(text):
    tokens = []
    place = 0
    while place < len(text):
        if text[place] == " ":
            place += 1
            continue
        found = TOKEN.match(text, place)
        if not found or len(found.group()) > (2 if found.group()[0].isdigit() else 12):
            raise Fault(1, place)
        tokens.append((found.group(), place))
        place = found.end()
    return tokens + [("", len(text))]


class Reader:
    def __init__(self, text, names):
        self.tokens = tokens_of(text)
        self.names = names
        self.place = 0

    def next(self):
        return self.tokens[self.place][0]

    def fail(self, reason):
        raise Fault(reason, self.tokens[self.place][1])

    def take(self):
        self.place += 1
        return self.tokens[self.place - 1][0]

    def chain(self, symbols, part):
        tree = part()
        while self.next() and self.next() in symbols:
            symbol = self.take()
            tree = (symbol, tree, part())
        return tree

    def sum(self):
        return self.chain("+-", self.product)

    def product(self):
        return self.chain("*/", self.colon)

    def colon(self):
        return self.chain(":", self.power)

    def power(self):
        tree = self.primary()
        if self.next() != "^":
            return tree
        self.take()
        if not self.next().isdigit():
            self.fail(2)
        if not 1 <= int(self.next()) <= 6:
            self.fail(4)
        return ("^", tree, int(self.take()))

    def primary(self):
        token = self.next()
        if token[:1].isalpha():
            if token not in self.names:
                self.fail(3)
            return self.take()
        if token.isdigit() and int(token) < 2:
            return int(self.take())
        if token != "(":
            self.fail(2)
        self.take()
        tree = self.sum()
        if self.next() != ")":
            self.fail(2)
        self.take()
        return tree

    def whole(self):
        tree = self.sum()
        if self.next():
            self.fail(2)
        return tree


def read(text, names):
    return Reader(text, names).whole()


def checked(text, names):
    """What check answers."""
    try:
        read(text, names)
    except Fault as fault:
        return list(fault.args)
    return [0]


def unions(first, second):
    return {one | other for one in first for other in second}


def expansion(tree):
    if tree == 0:
        return set()
    if tree == 1:
        return {frozenset()}
    if isinstance(tree, str):
        return {frozenset([tree])}
    symbol, first = tree[0], expansion(tree[1])
    if symbol == "^":
        result = first
        for step in range(tree[2] - 1):
            result = result | first | unions(result, first)
        return result
    second = expansion(tree[2])
    if symbol == "+":
        return first | second
    if symbol == "-":
        return first - second
    if symbol == ":":
        return unions(first, second)
    if symbol == "*":
        return first | second | unions(first, second)
    return first | unions({frozenset().union(*first)}, second)


def terms_as_model(tree):
    if isinstance(tree, tuple) and tree[0] == "+":
        return terms_as_model(tree[1]) | expansion(tree[2])
    if isinstance(tree, tuple) and tree[0] == "-":
        return terms_as_model(tree[1]) - expansion(tree[2])
    return expansion(tree) | {frozenset()}


def ordered(model, names):
    """The terms as sorted lists of factor numbers, in the order of a model."""
    lists = [sorted(names.index(name) for name in term) for term in model]
    return sorted(lists, key=lambda term: (len(term), term))


def numbered(model, names):
    """The terms as whole numbers, in the order of a model."""
    return [sum(2 ** factor for factor in term) for term in ordered(model, names)]


def subsets(model):
    return {frozenset(part) for term in model
            for size in range(len(term) + 1) for part in combinations(sorted(term), size)}


PARENTHESES = {
    # symbol: (kinds that need parentheses on the left, and on the right)
    "+": ("", "+-"),
    "-": ("", "+-"),
    "*": ("+-", "+-*/"),
    "/": ("+-", "+-*/"),
    ":": ("+-*/", "+-*/:"),
    "^": ("+-*/:^", ""),
}


def operand_text(tree, symbols):
    if isinstance(tree, tuple) and tree[0] in symbols:
        return "(" + canonical(tree) + ")"
    return canonical(tree)


def canonical(tree):
    if not isinstance(tree, tuple):
        return str(tree)
    left, right = PARENTHESES[tree[0]]
    sign = tree[0] if tree[0] in ":^" else " " + tree[0] + " "
    return operand_text(tree[1], left) + sign + operand_text(tree[2], right)


# By coding and number of levels: for each level, the entries of the columns.
CODINGS = {
    (0, 2): [[0], [1]],
    (0, 3): [[0, 0], [1, 0], [0, 1]],
    (0, 4): [[0, 0, 0], [1, 0, 0], [0, 1, 0], [0, 0, 1]],
    (0, 5): [[0, 0, 0, 0], [1, 0, 0, 0], [0, 1, 0, 0], [0, 0, 1, 0], [0, 0, 0, 1]],
    (1, 2): [[1], [-1]],
    (1, 3): [[1, 0], [0, 1], [-1, -1]],
    (1, 4): [[1, 0, 0], [0, 1, 0], [0, 0, 1], [-1, -1, -1]],
    (1, 5): [[1, 0, 0, 0], [0, 1, 0, 0], [0, 0, 1, 0], [0, 0, 0, 1], [-1, -1, -1, -1]],
    (2, 2): [[-1], [1]],
    (2, 3): [[-1, -1], [1, -1], [0, 2]],
    (2, 4): [[-1, -1, -1], [1, -1, -1], [0, 2, -1], [0, 0, 3]],
    (2, 5): [[-1, -1, -1, -1], [1, -1, -1, -1], [0, 2, -1, -1], [0, 0, 3, -1], [0, 0, 0, 4]],
    (3, 2): [[-1], [1]],
    (3, 3): [[-1, 1], [0, -2], [1, 1]],
    (3, 4): [[-3, 1, -1], [-1, -1, 3], [1, -1, -3], [3, 1, 1]],
    (3, 5): [[-2, 2, -1, 1], [-1, -1, 2, -4], [0, -2, 0, 6], [1, -1, -2, -4], [2, 2, 1, 1]],
}


def design_row(terms, level_counts, codings, levels):
    """The row of a run; the terms are lists of factor numbers."""
    row = []
    for term in terms:
        parts = [CODINGS[codings[factor], level_counts[factor]][levels[factor]] for factor in term]
        row += [prod(chosen) for chosen in product(*parts)]
    return row


def eliminated(matrix):
    """The rank, and the product of the pivots with the sign of the order of the rows."""
    left = [[Fraction(entry) for entry in row] for row in matrix]
    rank = 0
    value = Fraction(1)
    for column in range(len(matrix[0]) if matrix else 0):
        places = [place for place in range(rank, len(left)) if left[place][column]]
        if not places:
            continue
        if places[0] != rank:
            left[rank], left[places[0]] = left[places[0]], left[rank]
            value = -value
        value *= left[rank][column]
        for place in range(rank + 1, len(left)):
            part = left[place][column] / left[rank][column]
            left[place] = [entry - part * other for entry, other in zip(left[place], left[rank])]
        rank += 1
    return rank, value


def matrix_rank(matrix):
    return eliminated(matrix)[0]


def determinant(square):
    rank, value = eliminated(square)
    return int(value) if rank == len(square) else 0


def aliased(matrix, width):
    ranks = [matrix_rank([row[:end] for row in matrix]) for end in range(width + 1)]
    return [int(ranks[column] == ranks[column + 1]) for column in range(width)]


def information(matrix, width):
    return [[sum(row[one] * row[two] for row in matrix) for two in range(width)] for one in range(width)]


def estimable(matrix, vector):
    return int(matrix_rank(matrix + [vector]) == matrix_rank(matrix))
