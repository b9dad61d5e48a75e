"""Clauses of formulas."""
