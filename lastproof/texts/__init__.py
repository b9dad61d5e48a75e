"""Texts of terms, literals and clauses."""
