"""The derivations of the clauses of a reasoner."""

from lastproof.errors import UnknownClause
from lastproof.reasoner.kept import numbers_used


def needed(reasoner, number):
    """Return the list of the numbers of the clauses that a clause needs, itself included, in ascending order."""
    return [kept.number for kept in needed_clauses(reasoner, number)]


def derive(reasoner, number):
    """Return the list of the steps of the derivation of a clause."""
    growth = Growth()
    for kept in needed_clauses(reasoner, number):
        growth.add_clause(kept)
    return growth.steps


def axioms_below(reasoner, number):
    """Return the list of the numbers of the axioms on which the clause rests, each once."""
    found = {kept.made[1]: True for kept in needed_clauses(reasoner, number) if kept.made[0] == "given"}
    return list(found)


def needed_clauses(reasoner, number):
    """Return the list of the Kept that a clause needs, by their numbers. Raises UnknownClause if there is none."""
    known = {kept.number: kept for kept in reasoner.everything()}
    if number not in known:
        raise UnknownClause(number)
    found = {}
    todo = [number]
    while todo:
        here = todo.pop()
        if here not in found:
            found[here] = True
            todo.extend(numbers_used(known[here]))
    return [known[here] for here in sorted(found)]


class Growth:
    """The steps of a derivation so far, and the numbers of the lines of the clauses in it."""

    def __init__(self):
        self.steps = []
        self.line_of = {}

    def add_clause(self, kept):
        """Add the steps of a clause whose needs have been added."""
        if kept.made[0] == "copied":
            line = self.line_of[kept.made[1]]
        else:
            line = self.add_step(self.made_step(kept.made))
        for change in kept.changes:
            line = self.add_step(self.change_step(change, line))
        self.line_of[kept.number] = line

    def add_step(self, step):
        """Add a step and return the number of its line."""
        self.steps.append(step)
        return len(self.steps) - 1

    def made_step(self, made):
        """Return the step that made a clause, which is not copied."""
        if made[0] == "given":
            return made
        conclusion = made[-1]
        line = self.line_of[made[1]]
        first = dict(conclusion.first)
        if made[0] == "resolved":
            return ("resolve", line, first, conclusion.literal)
        if made[0] == "factored":
            sides = (conclusion.literal, conclusion.side, conclusion.other_literal, conclusion.other_side)
            return ("factor", line, first) + sides
        target = (conclusion.literal, conclusion.side, conclusion.place)
        source = (dict(conclusion.second), conclusion.other_literal, conclusion.other_side)
        return ("superpose", line, first) + target + (self.line_of[made[2]],) + source

    def change_step(self, change, line):
        """Return the step of a change of this line."""
        if change[0] == "cleaned":
            return ("clean", line)
        if change[0] == "renumbered":
            return ("instance", line, dict(change[1]))
        rewriting = change[2]
        target = (rewriting.literal, rewriting.side, rewriting.place)
        source = (self.line_of[change[1]], dict(rewriting.substitution), 0, rewriting.equation_side)
        return ("superpose", line, {}) + target + source
