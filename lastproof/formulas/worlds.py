"""Worlds: individuals, and tables for symbols."""


class World:
    """A world with so many individuals, and a dict from pairs (symbol, number of arguments) to tuples."""

    def __init__(self, size, tables):
        self.size = size
        self.tables = {use: tables[use] for use in tables}


def table_length(size, many):
    """Return how many values the table of a symbol with so many arguments has."""
    length = 1
    for _ in range(many):
        length *= size
    return length
