"""Formulas for models of experiments."""
