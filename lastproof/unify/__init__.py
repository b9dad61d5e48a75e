"""Unification and matching of terms."""
