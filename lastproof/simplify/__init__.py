"""Simplification of clauses."""
