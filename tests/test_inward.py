import random
import unittest

from lastproof.clauses.inward import inward
from lastproof.formulas.meaning import holds, uses_of
from tests.formula_samples import random_formula, random_world

P = ("atom", ((1, 0, 0), ()))
Q = ("atom", ((1, 1, 0), ()))
E = ("equal", 0, ((2, 0, 0), ()))
NOT_P, NOT_Q, NOT_E = ("not", P), ("not", Q), ("not", E)


def only_at_the_end(formula):
    """Negations stand at atoms and equalities, and there is no implies and no iff."""
    word = formula[0]
    if word == "not":
        return formula[1][0] in ("atom", "equal")
    if word in ("atom", "equal"):
        return True
    return word in ("and", "or", "all", "some") and all(only_at_the_end(f) for f in formula[1:] if isinstance(f, tuple))


class InwardTest(unittest.TestCase):
    def check(self, formula, positive, negative):
        self.assertEqual(inward(formula, True), positive)
        self.assertEqual(inward(formula, False), negative)

    def test_atoms_and_equalities(self):
        self.check(P, P, NOT_P)
        self.check(E, E, NOT_E)

    def test_not(self):
        self.check(NOT_P, NOT_P, P)
        self.check(("not", NOT_E), E, NOT_E)
        self.check(("not", ("and", P, Q)), ("or", NOT_P, NOT_Q), ("and", P, Q))

    def test_and_or_implies(self):
        self.check(("and", P, Q), ("and", P, Q), ("or", NOT_P, NOT_Q))
        self.check(("or", P, Q), ("or", P, Q), ("and", NOT_P, NOT_Q))
        self.check(("implies", P, Q), ("or", NOT_P, Q), ("and", P, NOT_Q))
        self.check(("and", NOT_P, Q), ("and", NOT_P, Q), ("or", P, NOT_Q))

    def test_iff(self):
        self.check(("iff", P, Q),
                   ("and", ("or", NOT_P, Q), ("or", P, NOT_Q)),
                   ("and", ("or", P, Q), ("or", NOT_P, NOT_Q)))
        self.check(("iff", NOT_P, E),
                   ("and", ("or", P, E), ("or", NOT_P, NOT_E)),
                   ("and", ("or", NOT_P, E), ("or", P, NOT_E)))

    def test_quantifiers(self):
        self.check(("all", 3, P), ("all", 3, P), ("some", 3, NOT_P))
        self.check(("some", 3, P), ("some", 3, P), ("all", 3, NOT_P))
        self.check(("all", 0, ("some", 1, ("implies", P, Q))),
                   ("all", 0, ("some", 1, ("or", NOT_P, Q))), ("some", 0, ("all", 1, ("and", P, NOT_Q))))

    def test_forms_inside_of_each_form(self):
        inner = ("implies", P, ("all", 0, Q))
        positive, negative = ("or", NOT_P, ("all", 0, Q)), ("and", P, ("some", 0, NOT_Q))
        self.check(inner, positive, negative)
        self.check(("not", inner), negative, positive)
        self.check(("and", inner, P), ("and", positive, P), ("or", negative, NOT_P))
        self.check(("or", P, inner), ("or", P, positive), ("and", NOT_P, negative))
        self.check(("implies", inner, inner), ("or", negative, positive), ("and", positive, negative))
        self.check(("iff", inner, Q), ("and", ("or", negative, Q), ("or", positive, NOT_Q)),
                   ("and", ("or", positive, Q), ("or", negative, NOT_Q)))
        self.check(("iff", Q, inner), ("and", ("or", NOT_Q, positive), ("or", Q, negative)),
                   ("and", ("or", Q, positive), ("or", NOT_Q, negative)))
        self.check(("some", 2, inner), ("some", 2, positive), ("all", 2, negative))

    def test_the_forms_mean_the_same(self):
        source = random.Random(58)
        for _ in range(400):
            formula = random_formula(source, 4)
            world = random_world(source, uses_of([formula]), 2)
            for positive in (True, False):
                form = inward(formula, positive)
                self.assertTrue(only_at_the_end(form))
                self.assertEqual(holds(form, world), holds(formula, world) == positive)

    def test_deep_formulas(self):
        formula = P
        for _ in range(300):
            formula = ("not", formula)
        self.check(formula, P, NOT_P)
