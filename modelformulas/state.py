"""What is stored between the calls on one object."""

from modelformulas.codings import coded_level
from modelformulas.expansion import terms_as_model
from modelformulas.formulas import read_formula
from modelformulas.matrices import products
from modelformulas.models import INTERCEPT_MODEL, factors_of, ordered_terms, terms_of


class Design:
    """The factors, the model and the runs, as they are right after create."""

    def __init__(self):
        self.names = []
        self.level_counts = []
        self.codings = []
        self.model = INTERCEPT_MODEL
        # A list of levels for each run.
        self.runs = []

    def add_factor(self, level_count, coding, name):
        self.level_counts.append(level_count)
        self.codings.append(coding)
        self.names.append(name)

    def model_of(self, text):
        """The terms of a formula as a model; FormulaFailure if the text is none."""
        return terms_as_model(read_formula(text, self.names))

    def degrees_of(self, term):
        degrees = 1
        for factor in factors_of(term):
            degrees *= self.level_counts[factor] - 1
        return degrees

    def column_count(self, model):
        return sum([self.degrees_of(term) for term in terms_of(model)])

    def is_run(self, levels):
        if len(levels) != len(self.level_counts):
            return False
        return all([level < level_count for level, level_count in zip(levels, self.level_counts, strict=True)])

    def level_entries(self, factor, level):
        return coded_level(self.codings[factor], self.level_counts[factor], level)

    def term_columns(self, term, levels):
        columns = [1]
        for factor in factors_of(term):
            columns = products(columns, self.level_entries(factor, levels[factor]))
        return columns

    def row_of(self, levels):
        """The row of a run."""
        row = []
        for term in ordered_terms(self.model):
            row.extend(self.term_columns(term, levels))
        return row

    def matrix(self):
        """The rows of all runs."""
        return [self.row_of(levels) for levels in self.runs]
