"""What is stored between the calls on one object."""

from modelformulas.expansion import terms_as_model
from modelformulas.formulas import read_formula
from modelformulas.models import INTERCEPT_MODEL, factors_of, terms_of


class Design:
    """The factors and the model, as they are right after create."""

    def __init__(self):
        self.names = []
        self.level_counts = []
        self.codings = []
        self.model = INTERCEPT_MODEL

    def add_factor(self, level_count, coding, name):
        self.level_counts.append(level_count)
        self.codings.append(coding)
        self.names.append(name)

    def model_of(self, text):
        """The terms of a formula as a model; FormulaFailure if the text is none."""
        return terms_as_model(read_formula(text, self.names))

    def degrees_of(self, term):
        degrees = 1
        for factor in factors_of(term):
            degrees *= self.level_counts[factor] - 1
        return degrees

    def column_count(self, model):
        return sum([self.degrees_of(term) for term in terms_of(model)])
