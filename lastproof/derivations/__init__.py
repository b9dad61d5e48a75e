"""Derivations, their judge and what is read off them."""
