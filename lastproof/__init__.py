"""Lastproof: a reasoner for first-order logic with equality that misses no derivation."""
