"""Symbols, terms, substitutions, places, literals and clauses."""
