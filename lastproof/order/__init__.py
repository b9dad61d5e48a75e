"""The weights and the order of terms, literals and clauses."""
