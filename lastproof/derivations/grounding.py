"""Turning formulas into propositional clauses about the tables of a world of a given size.

Literals, clauses and cells are those of the module solving. There is a cell for each value in a table.
"""

from lastproof.formulas.worlds import table_length
from lastproof.terms.symbols import TRUTH
from lastproof.terms.terms import is_individual_symbol, is_variable, use_of

# The literal that always holds.
HOLDS = 1


def plain(formula):
    """Return a formula that means the same, with atoms, equalities, not, or, iff and some alone."""
    word = formula[0]
    if word in ("atom", "equal"):
        return formula
    if word == "not":
        return ("not", plain(formula[1]))
    if word == "some":
        return ("some", formula[1], plain(formula[2]))
    if word == "all":
        return ("not", ("some", formula[1], ("not", plain(formula[2]))))
    left, right = plain(formula[1]), plain(formula[2])
    if word == "and":
        return ("not", ("or", ("not", left), ("not", right)))
    if word == "implies":
        return ("or", ("not", left), right)
    return (word, left, right)


def without_repetitions(literals):
    """Return a dict of the literals, without the one that never holds."""
    return {literal: True for literal in literals if literal != -HOLDS}


def holds_anyway(literals):
    """Tell whether one of the literals always holds, or one of two that are opposite."""
    return HOLDS in literals or any([-literal in literals for literal in literals])


class Grounding:
    """The clauses so far, the cells of the tables, and a cell for the value of each ground term and atom.

    A ground term has individuals in the place of variables. It has a number; an individual is its own number.
    """

    def __init__(self, size, uses):
        self.size = size
        self.many = HOLDS
        self.clauses = [[HOLDS]]
        self.cells = [[HOLDS if k == one else -HOLDS for k in range(size)] for one in range(size)]
        self.known = {}
        self.equalities = {}
        self.tables = {}
        for symbol, many in uses:
            self.tables[(symbol, many)] = [self.new_cell(symbol) for _ in range(table_length(size, many))]

    def new_literal(self):
        """Return a literal that occurs nowhere else yet."""
        self.many += 1
        return self.many

    def new_cell(self, symbol):
        """Return a new cell for a value of this symbol."""
        if not is_individual_symbol(symbol):
            literal = self.new_literal()
            return [-literal, literal]
        if self.size == 1:
            return [HOLDS]
        cell = [self.new_literal() for _ in range(self.size)]
        self.clauses.append(cell)
        for k, literal in enumerate(cell):
            self.clauses.extend([[-literal, -other] for other in cell[:k]])
        return cell

    def add_clause(self, literals):
        """Add the clause without repetitions, unless it holds anyway."""
        clause = without_repetitions(literals)
        if not holds_anyway(clause):
            self.clauses.append(list(clause))

    def require(self, formula, positive, individuals):
        """Add clauses that say that the plain formula holds, or that it does not hold."""
        word = formula[0]
        if word == "not":
            self.require(formula[1], not positive, individuals)
        elif word == "or" and not positive:
            self.require(formula[1], False, individuals)
            self.require(formula[2], False, individuals)
        elif word == "some" and not positive:
            for one in range(self.size):
                self.require(formula[2], False, {**individuals, formula[1]: one})
        else:
            self.add_clause(self.alternatives(formula, positive, individuals))

    def alternatives(self, formula, positive, individuals):
        """Return literals of which at least one holds exactly if the plain formula holds, or does not hold."""
        word = formula[0]
        if word == "not":
            return self.alternatives(formula[1], not positive, individuals)
        if word == "or" and positive:
            found = self.alternatives(formula[1], True, individuals)
            return found if HOLDS in found else found + self.alternatives(formula[2], True, individuals)
        if word == "some" and positive:
            found = []
            for one in range(self.size):
                if HOLDS not in found:
                    found.extend(self.alternatives(formula[2], True, {**individuals, formula[1]: one}))
            return found
        literal = self.literal_of(formula, individuals)
        return [literal if positive else -literal]

    def literal_of(self, formula, individuals):
        """Return a literal that holds exactly if the plain formula holds."""
        word = formula[0]
        if word == "atom":
            if formula[1] == TRUTH:
                return HOLDS
            return self.cells[self.number_of(formula[1], individuals)][1]
        if word == "equal":
            return self.equal(self.number_of(formula[1], individuals), self.number_of(formula[2], individuals))
        if word == "not":
            return -self.literal_of(formula[1], individuals)
        if word == "iff":
            return self.alike(self.literal_of(formula[1], individuals), self.literal_of(formula[2], individuals))
        return self.one_of(self.alternatives(formula, True, individuals))

    def one_of(self, literals):
        """Return a literal that holds exactly if one of the literals holds."""
        left = without_repetitions(literals)
        if holds_anyway(left):
            return HOLDS
        if len(left) < 2:
            return list(left)[0] if left else -HOLDS
        new = self.new_literal()
        self.clauses.append([-new] + list(left))
        self.clauses.extend([[new, -literal] for literal in left])
        return new

    def alike(self, first, second):
        """Return a literal that holds exactly if both literals hold or neither of them."""
        for literal, other in ((first, second), (second, first)):
            if abs(literal) == HOLDS:
                return other if literal == HOLDS else -other
        new = self.new_literal()
        for clause in ([first, second, new], [-first, -second, new], [first, -second, -new], [-first, second, -new]):
            self.add_clause(clause)
        return new

    def number_of(self, term, individuals):
        """Return the number of the ground term or atom that comes of the term for these individuals."""
        if is_variable(term):
            return individuals[term]
        arguments = tuple([self.number_of(argument, individuals) for argument in term[1]])
        key = (term[0], arguments)
        if key not in self.known:
            self.known[key] = len(self.cells)
            self.cells.append(self.cell_of(use_of(term), arguments))
        return self.known[key]

    def cell_of(self, use, arguments):
        """Return the cell for the value of a symbol with ground terms of these numbers as arguments."""
        found = [([], 0)]
        for number in arguments:
            found = [further for one in found for further in self.extended(one, number)]
        if len(found) == 1:
            return self.tables[use][found[0][1]]
        new = self.new_cell(use[0])
        for unless, place in found:
            for literal, new_literal in zip(self.tables[use][place], new):
                self.add_clause(unless + [-literal, new_literal])
        return new

    def extended(self, found, number):
        """Return the pairs (literals, place) for one more argument: one of the literals holds at other places."""
        unless, place = found
        pairs = []
        for k, literal in enumerate(self.cells[number]):
            if literal != -HOLDS:
                pairs.append((unless + [-literal], place * self.size + k))
        return pairs

    def equal(self, first, second):
        """Return a literal that holds exactly if the ground terms with these numbers have the same value."""
        low, high = min(first, second), max(first, second)
        if low == high:
            return HOLDS
        if low < self.size:
            return self.cells[high][low]
        if (low, high) not in self.equalities:
            new = self.new_literal()
            for one, other in zip(self.cells[low], self.cells[high]):
                for clause in ([-new, one, -other], [-new, -one, other], [new, -one, -other]):
                    self.add_clause(clause)
            self.equalities[(low, high)] = new
        return self.equalities[(low, high)]
