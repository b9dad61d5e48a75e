import random
import unittest

from lastproof.formulas.meaning import clause_holds
from lastproof.simplify.parts import part_of
from lastproof.terms.literals import clause_variables, same
from lastproof.terms.substitutions import put_clause
from tests.formula_samples import random_world, uses_of_clauses
from tests.plain_conclusions import naive_part_of, small_clause
from tests.samples import A, B, PART, TRUTH, eq, f, ne, no, p, q, random_clause, yes


class PartsTest(unittest.TestCase):
    def check(self, c, d, pairs, indexes):
        """The pairs are those of the substitution, in order."""
        found = part_of(c, d)
        self.assertIs(type(found), tuple)
        self.assertEqual((list(found[0].items()), found[1]), (pairs, indexes))
        self.assertEqual(naive_part_of(c, d), (pairs, indexes))

    def check_none(self, c, d):
        self.assertIsNone(part_of(c, d))
        self.assertIsNone(naive_part_of(c, d))

    def test_the_example_of_the_document(self):
        self.check((eq(0, A),), (ne(A, B), eq(A, B)), [(0, B)], (1,))

    def test_the_empty_clause(self):
        self.check((), (), [], ())
        self.check((), (yes(p(0)), no(q())), [], ())
        self.check_none((yes(q()),), ())

    def test_a_clause_is_a_part_of_itself(self):
        for c in [(yes(p(3, 1)),), (no(p(0)), yes(p(0))), (eq(0, 1), ne(f(1), 2)), (yes(q()), yes(q()))]:
            self.check(c, c, [(v, v) for v in clause_variables(c)], tuple(range(len(c))))

    def test_instances_and_further_literals(self):
        self.check((yes(p(0)),), (yes(p(f(A))),), [(0, f(A))], (0,))
        self.check((yes(p(0)),), (no(p(A)), yes(q()), yes(p(B))), [(0, B)], (2,))
        self.check((yes(p(0, 1)),), (yes(p(1, 0)),), [(0, 1), (1, 0)], (0,))
        self.check((no(p(0)), yes(q(0))), (yes(q(A)), no(p(A)), yes(p(A))), [(0, A)], (1, 0))
        self.check_none((yes(p(A)),), (yes(p(0)),))
        self.check_none((yes(p(0)),), (no(p(0)),))
        self.check_none((yes(p(0)),), (yes(q(0)), yes(p(0, 0))))
        self.check_none((yes(p(0, 0)),), (yes(p(A, B)),))

    def test_more_literals_than_the_other_clause_has(self):
        self.check_none((yes(p(0)), yes(p(1))), (yes(p(A)),))
        self.check_none((yes(p(A)), yes(p(A))), (yes(p(A)),))
        self.check((yes(p(0)), yes(p(1))), (yes(p(A)), yes(p(A))), [(0, A), (1, A)], (0, 1))

    def test_literals_that_need_the_same_literal(self):
        self.check_none((yes(p(A)), yes(p(A))), (yes(p(A)), yes(p(B))))
        self.check_none((yes(p(A)), yes(p(0))), (yes(p(A)), yes(q())))
        self.check_none((yes(p(0)), yes(p(1)), yes(p(2))), (yes(p(A)), yes(p(B)), no(q())))
        self.check_none((eq(A, B), eq(B, A)), (eq(A, B), eq(A, A)))

    def test_exchanged_sides(self):
        self.check((eq(A, B),), (eq(B, A),), [], (0,))
        self.check((ne(f(0), 1),), (ne(A, f(B)),), [(0, B), (1, A)], (0,))
        self.check((yes(p(0)),), ((True, TRUTH, p(A)),), [(0, A)], (0,))
        # As they are comes first, for each literal of the other clause.
        self.check((eq(0, 1),), (eq(A, B),), [(0, A), (1, B)], (0,))
        self.check((eq(0, B),), (eq(B, A),), [(0, A)], (0,))
        self.check((eq(0, B),), (eq(B, A), eq(A, B)), [(0, A)], (0,))
        self.check((eq(0, B),), (eq(B, B), eq(A, B)), [(0, B)], (0,))
        self.check((eq(0, 1), yes(p(0))), (eq(A, B), yes(p(B))), [(0, B), (1, A)], (0, 1))
        self.check((eq(0, 1), yes(p(0))), (eq(A, B), yes(p(B)), yes(p(A))), [(0, A), (1, B)], (0, 2))

    def test_atom_sides_and_sides_without_atoms(self):
        # A variable matches an atom, but a literal without an atom is not the same as one with an atom.
        for literal in [yes(p(A)), yes(q()), (True, TRUTH, TRUTH), (True, p(A), q()), yes((PART, (A,)))]:
            self.check_none((eq(0, 1),), (literal,))
            self.check_none((eq(0, 0),), (literal,))
        self.check_none((yes(p(0)),), (eq(f(0), A),))
        self.check_none(((True, 0, TRUTH),), (eq(A, B), eq(0, A)))
        # With an atom on one side, the other one may be a variable.
        self.check(((True, 0, TRUTH),), (yes(p(A)),), [(0, p(A))], (0,))
        self.check(((True, 0, TRUTH),), (eq(A, B), (True, TRUTH, A)), [(0, A)], (1,))
        self.check(((True, p(1), 0),), (yes(p(A)),), [(1, A), (0, TRUTH)], (0,))

    def test_variables_that_occur_in_both_clauses(self):
        self.check((yes(p(0, f(1))),), (yes(p(1, f(0))),), [(0, 1), (1, 0)], (0,))
        self.check((yes(p(0)), no(p(f(0)))), (no(p(f(f(0)))), yes(p(f(0)))), [(0, f(0))], (1, 0))
        self.check_none((yes(p(f(0))),), (yes(p(0)),))
        self.check_none((yes(p(0, 0)),), (yes(p(0, 1)),))

    def test_going_back_over_earlier_literals(self):
        # The first literal must not take its first choice.
        self.check((yes(p(0)), yes(p(A))), (yes(p(A)), yes(p(B))), [(0, B)], (1, 0))
        self.check((yes(p(0)), no(q(0))), (yes(p(A)), yes(p(B)), no(q(B))), [(0, B)], (1, 2))
        # Over two literals, where the one in between has several choices.
        c = (yes(p(0)), yes(q(1)), no(p(0)))
        d = (yes(p(A)), yes(q(A)), yes(q(B)), yes(p(B)), no(p(B)))
        self.check(c, d, [(0, B), (1, A)], (3, 1, 4))
        # An exchange of sides in an earlier literal.
        c = (eq(0, 1), eq(1, 2), yes(p(2)))
        d = (eq(A, B), eq(f(A), A), yes(p(B)), yes(p(f(A))))
        self.check(c, d, [(0, B), (1, A), (2, f(A))], (0, 1, 3))

    def test_the_first_way(self):
        c = (yes(p(0)), yes(p(1)))
        self.check(c, (yes(p(A)), yes(p(B)), yes(p(f(A)))), [(0, A), (1, B)], (0, 1))
        self.check((eq(0, 1), eq(1, 2)), (eq(A, B), eq(B, A)), [(0, A), (1, B), (2, A)], (0, 1))
        # The variables are listed as they are matched, the left side first, as it stands in the first clause.
        self.check((ne(f(2, 0), 1), yes(p(4, 0))), (yes(p(A, B)), ne(A, f(B, B))), [(2, B), (0, B), (1, A), (4, A)], (1, 0))

    def test_many_literals(self):
        c = tuple(yes(p(k)) for k in range(60))
        self.check(c, c, [(k, k) for k in range(60)], tuple(range(60)))
        self.assertIsNone(part_of(c + (no(q()),), c + (yes(q()),)))
        # Choices of literals that have nothing to do with the last one are not tried again and again.
        c = tuple(yes(p(f(k))) for k in range(8)) + (yes(q(9, f(9))),)
        d = tuple(yes(p(f(k))) for k in range(12)) + (yes(q(A, f(B))),)
        self.assertIsNone(part_of(c, d))

    def test_arguments_stay_and_what_is_returned_is_new(self):
        c, d = (yes(p(0)),), (yes(p(A)),)
        part_of(c, d)[0].clear()
        self.check(c, d, [(0, A)], (0,))
        part_of((), ())[0][0] = A
        self.check((), (), [], ())

    def test_against_the_words_of_the_document(self):
        source = random.Random(76)
        many = 0
        for _ in range(4000):
            c = small_clause(source) if source.random() < 0.7 else random_clause(source, depth=1)
            d = small_clause(source)
            if source.random() < 0.6:
                image = put_clause(c, {v: source.choice([A, B, 0, 1, f(0), f(A)]) for v in range(3)})
                literals = [one if source.random() < 0.5 else (one[0], one[2], one[1]) for one in image + d]
                source.shuffle(literals)
                d = tuple(literals)
            found = part_of(c, d)
            expected = naive_part_of(c, d)
            self.assertEqual(None if found is None else (list(found[0].items()), found[1]), expected)
            if found is not None:
                many += 1
                instance = put_clause(c, found[0])
                self.assertTrue(all(same(one, d[k]) for one, k in zip(instance, found[1])))
                self.assertEqual(len(set(found[1])), len(c))
        self.assertGreater(many, 1500)

    def test_much_going_back(self):
        source = random.Random(760)
        constants = [A, B, f(A), f(B)]
        counts = [0, 0]
        for _ in range(1500):
            c = tuple(source.choice([yes(p(source.randrange(4), source.randrange(4))), eq(source.randrange(4), source.randrange(4)),
                                     no(q(source.randrange(4)))]) for _ in range(source.choice([3, 4, 5])))
            d = tuple(source.choice([yes(p(source.choice(constants), source.choice(constants))),
                                     eq(source.choice(constants), source.choice(constants)), no(q(source.choice(constants)))])
                      for _ in range(source.choice([6, 7, 8])))
            found, expected = part_of(c, d), naive_part_of(c, d)
            counts[found is not None] += 1
            self.assertEqual(None if found is None else (list(found[0].items()), found[1]), expected)
        self.assertGreater(min(counts), 150)

    def test_a_clause_holds_where_its_part_holds(self):
        source = random.Random(75)
        many = 0
        for _ in range(1500):
            c = small_clause(source, most=1)
            d = small_clause(source) + put_clause(c, {0: source.choice([A, f(0)])})
            if part_of(c, d) is not None:
                world = random_world(source, uses_of_clauses([c, d]), 2)
                if clause_holds(c, world):
                    many += 1
                    self.assertTrue(clause_holds(d, world))
        self.assertGreater(many, 100)
