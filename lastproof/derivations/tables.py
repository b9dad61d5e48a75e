"""The texts of worlds."""

from lastproof.errors import NoWorld
from lastproof.formulas.worlds import World
from lastproof.texts.reading import number_of
from lastproof.texts.writing import symbol_text


def world_text(world, names):
    """Return the text of a world."""
    lines = [f"size {world.size}"]
    for use in world.tables:
        lines.append(" ".join([use_text(use, names)] + [str(value) for value in world.tables[use]]))
    return "".join([f"{line}\n" for line in lines])


def use_text(use, names):
    """Return the beginning of the line of the table of a use."""
    symbol, many = use
    return f"{symbol_text(symbol, names)}/{many}:"


def read_world(text, names, uses):
    """Return the world with this text, with tables for these uses. Raises NoWorld if there is none."""
    lines = text.split("\n")
    word, _, number = lines[0].partition(" ")
    size = number_of(number)
    if word != "size" or size is None or lines[-1] or len(lines) != len(uses) + 2:
        raise NoWorld("not the text of a world")
    tables = {}
    for use, line in zip(uses, lines[1:-1]):
        beginning, *texts = line.split(" ")
        values = [number_of(value) for value in texts]
        if beginning != use_text(use, names) or None in values:
            raise NoWorld("not the text of a table")
        tables[use] = tuple(values)
    return World(size, tables)
