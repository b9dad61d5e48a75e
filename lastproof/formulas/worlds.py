"""Worlds: individuals, and tables for symbols."""


class World:
    """A world with so many individuals, and a dict from pairs (symbol, number of arguments) to tuples."""

    def __init__(self, size, tables):
        self.size = size
        self.tables = {use: tables[use] for use in tables}
