"""The reasoner and the clauses that it holds."""
