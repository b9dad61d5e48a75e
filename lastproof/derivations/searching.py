"""The judge of finite worlds, and the search for them."""

from lastproof.derivations.grounding import Grounding, plain
from lastproof.derivations.solving import Solver
from lastproof.formulas.meaning import holds, uses_of
from lastproof.formulas.worlds import World, table_length
from lastproof.terms.terms import is_individual_symbol


def accepts_world(world, formulas):
    """Tell whether the world is accepted for the formulas."""
    if world.size < 1 or not all([fits_size(world, use) for use in world.tables]):
        return False
    return all([holds(formula, world) for formula in formulas])


def fits_size(world, use):
    """Tell whether the table of the use has the right number of values, all in their range."""
    symbol, many = use
    table = world.tables[use]
    bound = world.size if is_individual_symbol(symbol) else 2
    return len(table) == table_length(world.size, many) and all([0 <= value < bound for value in table])


def find_world(formulas, size):
    """Return the accepted World of this size with the least list of values, or None."""
    if size < 1:
        return None
    uses = uses_of(formulas)
    grounding = Grounding(size, uses)
    for formula in formulas:
        grounding.require(plain(formula), True, {})
    cells = [cell for use in uses for cell in grounding.tables[use]]
    solver = Solver(grounding.many, grounding.clauses, cells)
    if not solver.solve():
        return None
    return World(size, {use: tuple([solver.value_of(cell) for cell in grounding.tables[use]]) for use in uses})
