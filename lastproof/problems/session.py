"""Sessions: a problem that is edited, and a reasoner that works on it."""

from lastproof.derivations.growing import axioms_below, derive
from lastproof.derivations.notation import derivation_text
from lastproof.derivations.questions import answers
from lastproof.derivations.saturated import set_text
from lastproof.derivations.searching import find_world
from lastproof.derivations.tables import world_text
from lastproof.errors import OutOfRange
from lastproof.problems.problem import Problem
from lastproof.problems.reading import edited, read_problem
from lastproof.reasoner.reasoner import Reasoner
from lastproof.texts.writing import clause_text, term_text

GREATEST_SIZE = 8


class Session:
    """A problem, its reasoner, and what was told before edits and before these were undone."""

    def __init__(self, text):
        self.state = read_problem(text)
        self.engine = Reasoner(self.state.symbol_weights(), self.state.given_clauses())
        self.undone = []
        self.before = []

    def edit(self, text):
        """Edit the problem. Raises TextFault."""
        problem = edited(self.state, text)
        self.before.append(self.state.told)
        self.undone = []
        self.change_to(problem)

    def undo(self):
        """Take the last edit back. Tell whether there was one."""
        return self.exchange(self.before, self.undone)

    def redo(self):
        """Bring back what was undone last. Tell whether there was something."""
        return self.exchange(self.undone, self.before)

    def exchange(self, source, target):
        """Bring back what stands last in the source, and put what is told now in the target."""
        if not source:
            return False
        told = source.pop()
        target.append(self.state.told)
        self.change_to(Problem(self.state.names, self.state.heavy, told, self.state.next_number))
        return True

    def change_to(self, problem):
        """Work on another state of the problem from now on."""
        same_numbers = numbers_told(problem) == numbers_told(self.state)
        stays = same_numbers and len(problem.names) == len(self.state.names)
        self.state = problem
        if not stays:
            self.engine.turn(problem.symbol_weights(), problem.given_clauses())

    def choose(self, number, literal):
        """Choose a waiting clause. Return the list of the new numbers."""
        return self.engine.choose(number, literal)

    def run(self, count):
        """Choose what is suggested, at most so many times. Return the status."""
        return self.engine.run(count)

    def suggestion(self):
        """Return the suggested pair (number, literal), or None."""
        return self.engine.suggestion()

    def status(self):
        """Return "refuted", "saturated" or "open"."""
        return self.engine.status()

    def numbers(self):
        """Return the lists of the numbers of the waiting, the chosen and the gone clauses."""
        waiting = [kept.number for kept in self.engine.waiting]
        chosen = [kept.number for kept in self.engine.chosen]
        return (waiting, chosen, [gone.kept.number for gone in self.engine.gone])

    def describe(self, number):
        """Return the text of a clause, where it is, its selected literal, on what it rests. Raises UnknownClause."""
        rests = [self.state.name_of(axiom) for axiom in axioms_below(self.engine, number)]
        kept = self.engine.find(number)
        return (clause_text(kept.clause, self.state.names), self.place_of(number), kept.selected, rests)

    def place_of(self, number):
        """Return "waits", "chosen" or "gone" for the number of a clause."""
        waiting, chosen, _ = self.numbers()
        if number in waiting:
            return "waits"
        return "chosen" if number in chosen else "gone"

    def problem_text(self):
        """Return the text of the problem now."""
        return self.state.as_text()

    def derivation(self):
        """Return the text of the derivation of the first empty clause, or None."""
        steps = self.refuting_steps()
        return None if steps is None else derivation_text(steps, self.state.names)

    def refuting_steps(self):
        """Return the steps of the derivation of the first empty clause, or None."""
        for kept in self.engine.waiting + self.engine.chosen:
            if not kept.clause:
                return derive(self.engine, kept.number)
        return None

    def derivation_of(self, number):
        """Return the text of the derivation of a clause. Raises UnknownClause."""
        return derivation_text(derive(self.engine, number), self.state.names)

    def saturated_set(self):
        """Return the text of the set of the chosen clauses, or None if the status is not "saturated"."""
        if self.status() != "saturated":
            return None
        return set_text([(kept.clause, kept.selected) for kept in self.engine.chosen], self.state.names)

    def answer_rows(self):
        """Return the answers as a list of lists of texts of terms, or None."""
        question = self.state.question_told()
        steps = self.refuting_steps()
        if question is None or steps is None:
            return None
        rows = answers(self.engine.given, question.number, steps)
        return None if rows is None else [[term_text(term, self.state.names) for term in row] for row in rows]

    def small_world(self, size):
        """Return the text of the least world of this size, or None. Raises OutOfRange."""
        if not 1 <= size <= GREATEST_SIZE:
            raise OutOfRange("size")
        world = find_world(self.state.against(), size)
        return None if world is None else world_text(world, self.state.names)


def numbers_told(problem):
    """Return the list of the numbers of what is told."""
    return [told.number for told in problem.told]
