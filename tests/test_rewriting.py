import random
import unittest

from lastproof.formulas.meaning import clause_holds
from lastproof.simplify.rewriting import Rewriting, rewrite
from lastproof.terms.substitutions import put
from tests.formula_samples import random_world, uses_of_clauses
from tests.plain_conclusions import naive_rewrite, small_clause
from tests.samples import A, B, F, G, H, P, TRUTH, eq, f, g, ne, no, p, q, yes


def as_row(found):
    if found is None:
        return None
    return (found.clause, found.literal, found.side, found.place, found.equation_side,
            list(found.substitution.items()))


class RewritingTest(unittest.TestCase):
    def test_the_fields(self):
        told = {0: A}
        r = Rewriting((yes(p(A)),), 0, 1, (0, 2), 1, told)
        told.clear()
        self.assertEqual(as_row(r), ((yes(p(A)),), 0, 1, (0, 2), 1, [(0, A)]))
        r = Rewriting(substitution={}, equation_side=0, place=(), side=1, literal=2, clause=())
        self.assertEqual(as_row(r), ((), 2, 1, (), 0, []))


class RewriteTest(unittest.TestCase):
    def check(self, equation, clause, row, weights=()):
        """The row is (clause, literal, side, place, side of the equation, pairs of the substitution)."""
        self.assertEqual(as_row(rewrite(dict(weights), equation, clause)), row)
        self.assertEqual(naive_rewrite(dict(weights), equation, clause), row)

    def check_none(self, equation, clause, weights=()):
        self.check(equation, clause, None, weights)

    def test_a_negative_equation(self):
        self.check_none(ne(f(0), 0), (yes(p(f(A))),))
        self.check_none(no(p(0)), (yes(p(A)), yes(q())))

    def test_a_term(self):
        self.check(eq(f(0), 0), (yes(p(f(A))),), ((yes(p(A)),), 0, 0, (0,), 0, [(0, A)]))
        self.check(eq(f(0), 0), (yes(p(g(B, f(7)))), no(q())), ((yes(p(g(B, 7))), no(q())), 0, 0, (0, 1), 0, [(0, 7)]))
        self.check(eq(f(A), B), (eq(A, g(f(A))),), ((eq(A, g(B)),), 0, 1, (0,), 0, []))
        self.check_none(eq(f(0), 0), (yes(p(g(A))), no(q(A, B))))
        self.check_none(eq(f(A), B), (yes(p(f(0))),))
        self.check_none(eq(f(0, 0), A), (yes(p(f(0, 1))),))
        self.check_none(eq(f(0), 0), ())

    def test_the_clause_is_not_renumbered(self):
        self.check(eq(f(0, 1), 0), (yes(p(f(8, 3))), no(q(5))), ((yes(p(8)), no(q(5))), 0, 0, (0,), 0, [(0, 8), (1, 3)]))

    def test_both_sides_of_the_equation(self):
        self.check(eq(0, f(0)), (yes(p(f(A))),), ((yes(p(A)),), 0, 0, (0,), 1, [(0, A)]))
        # Sides that are not comparable in the equation: the greater side of the instance is rewritten.
        equation = eq(f(0, 1), f(1, 0))
        self.check(equation, (yes(p(f(B, A))),), ((yes(p(f(A, B))),), 0, 0, (0,), 0, [(0, B), (1, A)]))
        self.check_none(equation, (yes(p(f(A, B))),))
        self.check_none(equation, (yes(p(f(0, 1))),))
        self.check(eq(g(0, A), f(0, B)), (yes(p(f(B, B), g(B, A))),),
                   ((yes(p(f(B, B), f(B, B))),), 0, 0, (1,), 0, [(0, B)]))
        self.check(eq(g(0, A), f(0, B)), (yes(p(f(B, B), g(B, A))),),
                   ((yes(p(g(B, A), g(B, A))),), 0, 0, (0,), 1, [(0, B)]), {B[0]: 2}.items())

    def test_the_side_0_comes_first_at_a_place(self):
        # Both sides match and have less on the other side.
        equation = eq(f(0, A), f(B, 1))
        self.check(equation, (yes(p(f(B, A))),), None)
        equation = eq(g(0, 1), g(1, 0))
        self.check(equation, (yes(p(g(B, A))),), ((yes(p(g(A, B))),), 0, 0, (0,), 0, [(0, B), (1, A)]))

    def test_a_variable_is_not_rewritten(self):
        self.check_none(eq(0, A), (eq(0, 1),))
        self.check_none(eq(0, 1), (eq(0, 1), yes(p(1))))
        self.check_none(eq(f(0), 0), (yes(p(0)), ne(0, 1)))

    def test_a_variable_as_the_matched_side(self):
        self.check(eq(0, A), (yes(p(f(B))),), ((yes(p(A)),), 0, 0, (0,), 0, [(0, f(B))]))
        self.check(eq(A, 0), (yes(p(f(B))),), ((yes(p(A)),), 0, 0, (0,), 1, [(0, f(B))]))
        # It is not an atom, so it does not match one.
        self.check_none(eq(0, A), (yes(p()), no(q())))
        self.check_none(eq(0, f(0)), (yes(p(A, g(B))),))

    def test_atoms_against_atoms(self):
        self.check(yes(p(0)), (yes(q()), no(p(A))), ((yes(q()), no(TRUTH)), 1, 0, (), 0, [(0, A)]))
        self.check(yes(p(0)), (yes(p(A)), yes(q())), ((yes(TRUTH), yes(q())), 0, 0, (), 0, [(0, A)]))
        self.check(yes(q()), (no(q()),), ((no(TRUTH),), 0, 0, (), 0, []))
        self.check((True, TRUTH, p(0)), (no(p(A)),), ((no(TRUTH),), 0, 0, (), 1, [(0, A)]))
        self.check_none(yes(p(0)), (yes(q(0)), yes(p(A, A))))
        # Truth is not greater than an atom.
        self.check_none(yes(p(0)), (yes(TRUTH), no(TRUTH)))

    def test_variables_of_the_other_side_that_are_not_matched_stay(self):
        self.check(eq(f(0), 1), (yes(p(f(g(1)))),), ((yes(p(1)),), 0, 0, (0,), 0, [(0, g(1))]))
        self.check_none(eq(f(0), 1), (yes(p(f(g(2)))),))
        self.check(eq(0, 1), (yes(p(f(1))),), ((yes(p(1)),), 0, 0, (0,), 0, [(0, f(1))]))
        self.check(eq(0, 1), (yes(p(f(0))),), ((yes(p(0)),), 0, 0, (0,), 1, [(1, f(0))]))
        self.check(eq(f(0, 2), g(0, 5)), (yes(p(f(f(A), g(5)))),),
                   ((yes(p(g(f(A), 5))),), 0, 0, (0,), 0, [(0, f(A)), (2, g(5))]))
        self.check_none(eq(f(0, 2), g(0, 6)), (yes(p(f(f(A), g(5)))),))
        self.check(eq(f(0, 2), 5), (yes(p(f(f(A), g(5)))),), ((yes(p(5)),), 0, 0, (0,), 0, [(0, f(A)), (2, g(5))]))

    def test_the_term_must_be_greater(self):
        self.check_none(eq(A, B), (yes(p(A)),))
        self.check(eq(A, B), (yes(p(B)),), ((yes(p(A)),), 0, 0, (0,), 1, []))
        self.check(eq(A, B), (yes(p(A)),), ((yes(p(B)),), 0, 0, (0,), 0, []), {A[0]: 2}.items())
        self.check_none(eq(f(0), g(0)), (yes(p(f(A))),))
        self.check(eq(f(0), g(0)), (yes(p(g(A))),), ((yes(p(f(A))),), 0, 0, (0,), 1, [(0, A)]))
        self.check_none(eq(f(0), f(0)), (yes(p(f(A))),))

    def test_the_clause_must_be_greater(self):
        # An equation does not rewrite itself, nor another clause of the same literal.
        for equation in [eq(f(0), 0), eq(f(A), A), eq(A, f(A)), yes(p(0)), eq(g(0, 1), f(0)), eq(0, A)]:
            self.check_none(equation, (equation,))
            self.check_none(equation, ((True, equation[2], equation[1]),))
        self.check_none(eq(f(0), 0), (eq(3, f(3)),))
        # The smaller side can be rewritten, and the greater side at a place below.
        self.check(eq(f(0), 0), (eq(g(A), f(A)),), ((eq(g(A), A),), 0, 1, (), 0, [(0, A)]))
        self.check(eq(f(0), 0), (eq(f(f(A)), A),), ((eq(f(A), A),), 0, 0, (0,), 0, [(0, A)]))
        # The greater side of an equation is rewritten only by a smaller equation.
        self.check(eq(f(0), A), (eq(f(B), B),), ((eq(A, B),), 0, 0, (), 0, [(0, B)]))
        self.check_none(eq(f(0), B), (eq(f(A), A),))
        self.check_none(eq(f(0), H), (eq(f(A), B),))
        # A negative literal, and a further literal that is as great, are greater than the equation.
        self.check(eq(f(0), 0), (ne(f(A), A),), ((ne(A, A),), 0, 0, (), 0, [(0, A)]))
        self.check(eq(f(0), 0), (eq(f(A), A), eq(f(A), A)), ((eq(A, A), eq(f(A), A)), 0, 0, (), 0, [(0, A)]))
        self.check(yes(p(0)), (yes(p(A)), yes(q())), ((yes(TRUTH), yes(q())), 0, 0, (), 0, [(0, A)]))
        self.check_none(yes(p(0)), (yes(p(A)),))

    def test_the_order_of_the_ways(self):
        equation = eq(f(0), A)
        # The literals, then the sides, then the places.
        self.check(equation, (yes(p(B)), no(p(f(B))), yes(p(f(A)))), ((yes(p(B)), no(p(A)), yes(p(f(A)))), 1, 0, (0,), 0, [(0, B)]))
        self.check(equation, (ne(g(f(A)), f(B)),), ((ne(g(A), f(B)),), 0, 0, (0,), 0, [(0, A)]))
        self.check(equation, (ne(B, g(f(B))),), ((ne(B, g(A)),), 0, 1, (0,), 0, [(0, B)]))
        self.check(equation, (no(p(g(f(A)), f(B))),), ((no(p(g(A), f(B))),), 0, 0, (0, 0), 0, [(0, A)]))
        self.check(equation, (no(p(f(f(B)))),), ((no(p(A)),), 0, 0, (0,), 0, [(0, f(B))]))
        self.check(equation, (no(p(g(A, B), f(f(B)))),), ((no(p(g(A, B), A)),), 0, 0, (1,), 0, [(0, f(B))]))
        # At the first place only the side 1 rewrites, at a later one the side 0.
        equation = eq(g(0, 1), g(1, 0))
        self.check(equation, (no(p(g(A, B), g(B, A))),), ((no(p(g(A, B), g(A, B))),), 0, 0, (1,), 0, [(0, B), (1, A)]))
        equation = eq(f(0, B), f(A, 0))
        self.check(equation, (no(p(f(B, B))),), ((no(p(f(A, B))),), 0, 0, (0,), 0, [(0, B)]))
        self.check(equation, (no(p(f(A, A), f(B, B))),), ((no(p(f(A, A), f(A, B))),), 0, 0, (1,), 0, [(0, B)]))

    def test_arguments_stay_and_what_is_returned_is_new(self):
        weights = {A[0]: 2}
        clause = (no(p(f(B))),)
        rewrite(weights, eq(f(0), 0), clause).substitution.clear()
        self.assertEqual(weights, {A[0]: 2})
        self.check(eq(f(0), 0), clause, ((no(p(B)),), 0, 0, (0,), 0, [(0, B)]))

    def test_against_the_words_of_the_document(self):
        source = random.Random(78)
        many = 0
        for _ in range(6000):
            clause = small_clause(source)
            equation = small_clause(source, most=1, positive=0.95)[0]
            weights = source.choice([{}, {F: 2}, {A[0]: 3, G: 2, P: 2}])
            found = rewrite(weights, equation, clause)
            self.assertEqual(as_row(found), naive_rewrite(weights, equation, clause))
            if found is not None:
                many += 1
                self.check_meaning(source, equation, clause, found)
        self.assertGreater(many, 400)

    def check_meaning(self, source, equation, clause, found):
        """The clause means the same as the rewritten one where the instance of the equation holds."""
        instance = ((True, put(equation[1], found.substitution), put(equation[2], found.substitution)),)
        world = random_world(source, uses_of_clauses([instance, clause, found.clause]), 2)
        if clause_holds(instance, world):
            self.assertEqual(clause_holds(clause, world), clause_holds(found.clause, world))
