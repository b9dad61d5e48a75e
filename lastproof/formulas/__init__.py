"""Formulas and their texts."""
