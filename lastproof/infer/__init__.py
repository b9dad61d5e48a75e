"""Conclusions from clauses."""
