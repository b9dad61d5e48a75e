"""Problems: what is told, under which names and numbers."""

from lastproof.clauses.clausing import clauses_of
from lastproof.derivations.questions import question_axiom
from lastproof.terms.symbols import function, predicate


class Told:
    """An axiom, a goal or a question."""

    def __init__(self, name, number, kind, formula, line):
        self.name = name
        self.number = number
        self.kind = kind
        self.formula = formula
        self.line = line


class Problem:
    """A table of names, weights of names, what is told, and the next number."""

    def __init__(self, names, heavy, told, next_number):
        self.names = list(names)
        self.heavy = list(heavy)
        self.told = list(told)
        self.next_number = next_number

    def symbol_weights(self):
        """Return the dict of the weights of the symbols that have a weight line."""
        weights = {name: weight for name, weight in self.heavy}
        found = {}
        for n, (is_predicate, name) in enumerate(self.names):
            if name in weights:
                found[predicate(n) if is_predicate else function(n)] = weights[name]
        return found

    def held(self):
        """Return the list of the formulas that are held."""
        return [held_formula(told) for told in self.told]

    def given_clauses(self):
        """Return the dict from the numbers of what is told to the clauses of what is held of it."""
        return {told.number: clauses_of(told.number, held_formula(told)) for told in self.told}

    def against(self):
        """Return the list of the formulas against which a world is checked."""
        return [told.formula if told.kind == "axiom" else ("not", told.formula) for told in self.told]

    def question_told(self):
        """Return what is told as a question, or None."""
        for told in self.told:
            if told.kind == "question":
                return told
        return None

    def name_of(self, number):
        """Return the name of what is told with this number, or None."""
        for told in self.told:
            if told.number == number:
                return told.name
        return None

    def as_text(self):
        """Return the text of the problem."""
        lines = [name_line(is_predicate, name) for is_predicate, name in self.names]
        lines.extend([f"weight {name} {weight}" for name, weight in self.heavy])
        number = 0
        for told in self.told:
            if told.number != number:
                lines.append(f"next {told.number}")
            lines.append(told.line)
            number = told.number + 1
        if self.next_number != number:
            lines.append(f"next {self.next_number}")
        return "\n".join(lines)


def name_line(is_predicate, name):
    """Return the line that adds the name to the table of names."""
    return f"predicate {name}" if is_predicate else f"function {name}"


def held_formula(told):
    """Return the formula that is held of what is told."""
    if told.kind == "axiom":
        return told.formula
    if told.kind == "goal":
        return ("not", told.formula)
    return question_axiom(told.number, told.formula)
