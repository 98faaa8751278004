"""Errands' texts: what a row of numbers tells."""
