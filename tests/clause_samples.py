"""Clauses by their texts, and reasoners that are compared with the plain one at each call."""

from lastproof.reasoner.reasoner import Reasoner
from lastproof.texts.reading import read_clause
from lastproof.texts.writing import clause_text
from tests.plain_reasoner import PlainReasoner, plain_state, state_of

NAMES = [(True, "p"), (True, "q"), (True, "r"), (False, "f"), (False, "g"), (False, "a"), (False, "b"), (False, "c")]
F, G, A, B, C = [(2, k, 0) for k in range(3, 8)]


def clause(text):
    return read_clause(text, NAMES)


def text_of(one):
    return clause_text(one, NAMES)


def clauses(*texts):
    return [clause(text) for text in texts]


def given_of(rows):
    """A dict of given clauses, of rows of texts."""
    return {axiom: clauses(*rows[axiom]) for axiom in rows}


class Compared:
    """A reasoner and the plain one, which must agree."""

    def __init__(self, test, rows, weights=()):
        self.test = test
        self.weights = dict(weights)
        self.engine = Reasoner(self.weights, given_of(rows))
        self.plain = PlainReasoner(self.weights, given_of(rows))
        self.agree()

    def agree(self):
        self.test.assertEqual(state_of(self.engine), plain_state(self.plain))
        self.test.assertEqual(self.engine.status(), self.plain.status())
        self.test.assertEqual(self.engine.suggestion(), self.plain.suggestion())

    def choose(self, number, literal=None):
        found = self.engine.choose(number, literal)
        self.test.assertEqual(found, self.plain.choose(number, literal))
        self.agree()
        return found

    def choose_all(self, *pairs):
        for number, literal in pairs:
            self.choose(number, literal)
        return self

    def turn(self, rows, weights=()):
        self.engine.turn(dict(weights), given_of(rows))
        self.plain.turn(dict(weights), given_of(rows))
        self.agree()

    def waiting(self):
        return [(kept.number, text_of(kept.clause)) for kept in self.engine.waiting]

    def chosen(self):
        return [(kept.number, text_of(kept.clause), kept.selected) for kept in self.engine.chosen]

    def gone(self):
        return [(gone.kept.number, gone.reason) for gone in self.engine.gone]
