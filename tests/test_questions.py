import copy
import unittest

from lastproof.derivations.questions import answers, question_axiom, sought
from lastproof.derivations.steps import check, refutes
from tests.formula_samples import parsed
from tests.samples import A, B, f, g, no, p, q, yes

R = (1, 2, 0)


def atom(term):
    return ("atom", term)


def reply(number, *arguments):
    return ((5, number, 0), arguments)


class SoughtTest(unittest.TestCase):
    def check(self, formula, bound, rest):
        self.assertEqual(sought(formula), (bound, rest))

    def test_no_quantifier(self):
        for formula in [atom(p()), ("not", ("some", 0, atom(p(0)))), ("all", 0, atom(p(0))),
                        ("and", ("some", 0, atom(p(0))), atom(q())), ("all", 0, ("some", 1, atom(p(0, 1))))]:
            self.check(formula, [], formula)

    def test_one_and_several(self):
        self.check(("some", 3, atom(p(3))), [3], atom(p(3)))
        self.check(("some", 3, ("some", 0, ("some", 7, atom(p(0, 3, 7))))), [3, 0, 7], atom(p(0, 3, 7)))
        self.check(parsed("some x y. p(y, x)"), [0, 1], atom(p(1, 0)))

    def test_the_same_variable_twice(self):
        self.check(("some", 0, ("some", 0, atom(p(0)))), [0, 0], atom(p(0)))
        self.check(("some", 1, ("some", 0, ("some", 1, atom(p(0, 1))))), [1, 0, 1], atom(p(0, 1)))

    def test_a_quantifier_all_in_between(self):
        rest = ("all", 1, ("some", 2, atom(p(0, 1, 2))))
        self.check(("some", 0, rest), [0], rest)
        self.check(("some", 0, ("not", ("some", 1, atom(p(1))))), [0], ("not", ("some", 1, atom(p(1)))))

    def test_the_list_is_new(self):
        formula = ("some", 3, atom(p(3)))
        sought(formula)[0].clear()
        self.check(formula, [3], atom(p(3)))
        self.assertIs(type(sought(formula)), tuple)
        self.assertIs(type(sought(formula)[0]), list)


class AxiomTest(unittest.TestCase):
    def test_no_quantifier(self):
        for formula in [atom(p()), ("all", 0, atom(p(0)))]:
            reply_atom = atom(reply(6))
            self.assertEqual(question_axiom(6, formula), ("and", ("implies", formula, reply_atom), ("not", reply_atom)))

    def test_one_quantifier(self):
        formula = atom(p(2))
        self.assertEqual(question_axiom(0, ("some", 2, formula)), (
            "and", ("all", 2, ("implies", formula, atom(reply(0, 2)))), ("all", 2, ("not", atom(reply(0, 2))))))

    def test_several_quantifiers(self):
        rest = ("all", 4, atom(p(4, 1, 0)))
        reply_atom = atom(reply(12, 1, 0))
        self.assertEqual(question_axiom(12, ("some", 1, ("some", 0, rest))), (
            "and", ("all", 1, ("all", 0, ("implies", rest, reply_atom))), ("all", 1, ("all", 0, ("not", reply_atom)))))

    def test_the_same_variable_twice(self):
        formula = ("some", 0, ("some", 0, atom(p(0))))
        reply_atom = atom(reply(1, 0, 0))
        self.assertEqual(question_axiom(1, formula), (
            "and", ("all", 0, ("all", 0, ("implies", atom(p(0)), reply_atom))),
            ("all", 0, ("all", 0, ("not", reply_atom)))))


# The axiom p(a), p(b) and a question with the clauses of: p(x) implies answer(x), and not answer(x).
GIVEN = {0: [(yes(p(A)),), (yes(p(B)),), (yes(p(f(0))),), (yes(p(0)),)], 7: [(no(p(0)), yes(reply(7, 0))), (no(reply(7, 0)),)]}


def asked(index):
    """A derivation from a clause of the axiom and the question: answer for the term of this clause."""
    term = GIVEN[0][index][0][1][1][0]
    return [
        ("given", 0, index), ("given", 7, 0), ("given", 7, 1),
        ("superpose", 1, {0: term}, 0, 0, (), 0, {}, 0, 0), ("clean", 3),
        ("superpose", 2, {0: term}, 0, 0, (), 4, {}, 0, 0), ("clean", 5),
    ]


class AnswersTest(unittest.TestCase):
    def check(self, given, number, steps, rows):
        self.assertTrue(refutes(given, steps))
        before = copy.deepcopy((given, steps))
        self.assertEqual(answers(given, number, steps), rows)
        self.assertEqual((given, steps), before)

    def test_one_answer(self):
        self.check(GIVEN, 7, asked(0), [(A,)])
        self.check(GIVEN, 7, asked(1), [(B,)])

    def test_an_answer_with_a_variable(self):
        self.check(GIVEN, 7, asked(2), [(f(0),)])
        self.check(GIVEN, 7, asked(3), [(0,)])

    def test_the_variables_are_renumbered(self):
        given = {0: [(yes(p(1, 0)),)], 7: [(no(reply(7, 0, 1)),)], 8: [(no(p(0, 1)), yes(reply(7, 1, 0)))]}
        steps = [
            ("given", 0, 0), ("given", 8, 0), ("given", 7, 0),
            ("superpose", 1, {0: 15, 1: g(4, 15)}, 0, 0, (), 0, {1: 15, 0: g(4, 15)}, 0, 0), ("clean", 3),
            ("superpose", 2, {0: g(4, 15), 1: 15}, 0, 0, (), 4, {}, 0, 0), ("clean", 5),
        ]
        self.check(given, 7, steps, [(g(0, 1), 1)])

    def test_a_question_that_is_used_by_no_step(self):
        self.check(GIVEN, 8, asked(0), [])
        self.check(GIVEN, 0, asked(0), [])
        self.check({0: [()]}, 7, [("given", 0, 0)], [])
        self.check({7: [()]}, 7, [("given", 7, 0)], [])

    def test_a_question_whose_steps_are_not_needed(self):
        self.check({0: [()], 7: GIVEN[7]}, 7, [("given", 7, 1), ("given", 0, 0)], [])

    def test_no_variables_are_sought(self):
        given = {7: [(no(reply(7)),), (yes(reply(7)),)]}
        steps = [("given", 7, 0), ("given", 7, 1), ("superpose", 0, {}, 0, 0, (), 1, {}, 0, 0), ("clean", 2)]
        self.check(given, 7, steps, [()])

    def test_only_the_single_negative_literal_of_this_question_gives_rows(self):
        given = {
            7: [(no(reply(7, A)),), (no(reply(8, 0)), no(reply(7, B))), (yes(reply(7, 0)),), (no(p(0)),), (yes(p(0)),),
                (no(reply(8, 0)),), (yes(reply(8, 0)),)],
            8: [(no(reply(7, f(0))),)],
        }

        def steps_for(axiom, index, positive_index):
            return [("given", axiom, index), ("given", 7, positive_index)]

        closed = [("superpose", 0, {0: A}, 0, 0, (), 1, {0: A}, 0, 0), ("clean", 2)]

        self.check(given, 7, steps_for(7, 0, 2) + [
            ("superpose", 0, {}, 0, 0, (), 1, {0: A}, 0, 0), ("clean", 2)], [(A,)])
        # The clause of another axiom.
        self.check(given, 7, steps_for(8, 0, 2) + [
            ("superpose", 0, {}, 0, 0, (), 1, {0: f(0)}, 0, 0), ("clean", 2)], [])
        # Another predicate, and the answer of another question.
        self.check(given, 7, steps_for(7, 3, 4) + closed, [])
        self.check(given, 7, steps_for(7, 5, 6) + closed, [])
        # No atom.
        self.check({7: [((False, 0, A),)]}, 7, [("given", 7, 0), ("resolve", 0, {0: A}, 0)], [])
        self.check({7: [((False, A, 0),)]}, 7, [("given", 7, 0), ("resolve", 0, {0: A}, 0)], [])
        # Two literals.
        self.check(given, 7, [
            ("given", 7, 1), ("given", 7, 2), ("given", 7, 6),
            ("superpose", 0, {}, 1, 0, (), 1, {0: B}, 0, 0), ("clean", 3),
            ("superpose", 4, {}, 0, 0, (), 2, {}, 0, 0), ("clean", 5)], [])
        # A positive literal, in a clause of its own.
        self.check({7: [(yes(reply(7, A)),), (no(reply(7, A)), no(p(A)))], 0: [(yes(p(0)),)]}, 7, [
            ("given", 7, 0), ("given", 7, 1), ("given", 0, 0),
            ("superpose", 1, {}, 0, 0, (), 0, {}, 0, 0), ("clean", 3),
            ("superpose", 4, {}, 0, 0, (), 2, {0: A}, 0, 0), ("clean", 5)], [])

    def test_several_answers_in_the_order_in_which_they_are_found(self):
        # not answer(x) is used twice: for a first, where it is rewritten, and then for b.
        given = {0: [(yes(reply(7, A)), yes(reply(7, B)))], 7: [(no(reply(7, 0)),)]}
        steps = [
            ("given", 0, 0), ("given", 7, 0),
            ("superpose", 1, {0: A}, 0, 0, (), 0, {}, 0, 0), ("clean", 2),
            ("superpose", 1, {0: B}, 0, 0, (), 3, {}, 0, 0), ("clean", 4),
        ]
        self.assertEqual(check(given, steps)[3], (yes(reply(7, B)),))
        self.check(given, 7, steps, [(B,), (A,)])

    def test_line_i_comes_before_line_j(self):
        given = {7: [(no(reply(7, 0)),)], 0: [(yes(reply(7, A)), yes(p(0))), (no(p(0)), yes(reply(7, B)))]}
        steps = [
            ("given", 7, 0), ("given", 0, 0), ("given", 0, 1),
            # Into not answer(x), for a: what is left is p(x).
            ("superpose", 0, {0: A}, 0, 0, (), 1, {}, 0, 0), ("clean", 3),
            # Into not answer(x), for b: what is left is not p(x).
            ("superpose", 0, {0: B}, 0, 0, (), 2, {}, 1, 0), ("clean", 5),
            ("superpose", 6, {}, 0, 0, (), 4, {}, 0, 0), ("clean", 7),
        ]
        self.check(given, 7, steps, [(B,), (A,)])
        swapped = steps[:3] + [
            ("superpose", 0, {0: B}, 0, 0, (), 2, {}, 1, 0), ("clean", 3),
            ("superpose", 0, {0: A}, 0, 0, (), 1, {}, 0, 0), ("clean", 5),
            ("superpose", 4, {}, 0, 0, (), 6, {}, 0, 0), ("clean", 7),
        ]
        self.check(given, 7, swapped, [(A,), (B,)])

    def test_lines_are_taken_from_the_last_one(self):
        given = {0: [(yes(reply(7, A)), yes(reply(7, B)))], 7: [(no(reply(7, 0)),)]}
        steps = [
            ("given", 7, 0), ("given", 0, 0), ("given", 7, 0),
            ("superpose", 0, {0: A}, 0, 0, (), 1, {}, 0, 0), ("clean", 3),
            ("superpose", 2, {0: B}, 0, 0, (), 4, {}, 0, 0), ("clean", 5),
        ]
        self.check(given, 7, steps, [(B,), (A,)])
        other = steps[:3] + [
            ("superpose", 2, {0: A}, 0, 0, (), 1, {}, 0, 0), ("clean", 3),
            ("superpose", 0, {0: B}, 0, 0, (), 4, {}, 0, 0), ("clean", 5),
        ]
        self.check(given, 7, other, [(A,), (B,)])

    def test_rows_that_are_found_twice(self):
        given = {0: [(yes(reply(7, A)), yes(reply(7, A)))], 7: [(no(reply(7, 0)),)]}
        two_lines = [
            ("given", 7, 0), ("given", 0, 0), ("given", 7, 0),
            ("superpose", 0, {0: A}, 0, 0, (), 1, {}, 0, 0), ("clean", 3),
            ("superpose", 2, {0: A}, 0, 0, (), 4, {}, 0, 0), ("clean", 5),
        ]
        self.check(given, 7, two_lines, [(A,)])
        self.check(given, 7, two_lines[:5] + [("superpose", 0, {0: A}, 0, 0, (), 4, {}, 0, 0), ("clean", 5)], [(A,)])

    def test_rows_that_differ_in_their_variables_are_different(self):
        given = {0: [(yes(reply(7, 0)), yes(reply(7, 1)))], 7: [(no(reply(7, 0)),)]}
        steps = [
            ("given", 7, 0), ("given", 0, 0),
            ("superpose", 0, {0: 5}, 0, 0, (), 1, {0: 5, 1: 3}, 0, 0), ("clean", 2),
            ("superpose", 0, {0: 3}, 0, 0, (), 3, {}, 0, 0), ("clean", 4),
        ]
        # The rows are (3) and (5), renumbered together.
        self.check(given, 7, steps, [(0,), (1,)])

    def test_instances_go_through_all_kinds_of_steps(self):
        given = {
            0: [((True, f(0), 1), (True, f(0), 2), no(p(0, 1)), (False, g(1), g(2)))],
            1: [(yes(p(0, 1)),)], 2: [((False, f(0), A),)], 7: [(no(reply(7, 0)), ), (yes(reply(7, 0)), (False, g(0), B))],
            3: [((True, g(0), B),)],
        }
        steps = [
            ("given", 7, 1), ("given", 3, 0), ("given", 7, 0),
            ("instance", 0, {0: g(6)}),                                         # answer(g(6)) or g(g(6)) != b
            ("superpose", 3, {}, 1, 0, (), 1, {0: g(6)}, 0, 0),                  # answer(g(6)) or b != b
            ("resolve", 4, {6: f(2)}, 1),                                        # answer(g(f(2)))
            ("superpose", 2, {0: g(f(2))}, 0, 0, (), 5, {}, 0, 0), ("clean", 6),
        ]
        self.check(given, 7, steps, [(g(f(0)),)])

    def test_factoring(self):
        given = {0: [((True, f(0), A), (True, f(1), A), yes(reply(7, 0)))], 1: [((False, f(0), A),)], 7: [(no(reply(7, 0)),)]}
        steps = [
            ("given", 0, 0), ("given", 1, 0), ("given", 7, 0),
            ("factor", 0, {0: 1}, 0, 0, 1, 0),                                   # a != a or f(1) = a or answer(1)
            ("clean", 3),
            ("superpose", 1, {0: B}, 0, 0, (), 4, {1: B}, 0, 0), ("clean", 5),   # a != a or answer(b)
            ("superpose", 2, {0: B}, 0, 0, (), 6, {}, 0, 0), ("clean", 7),
        ]
        self.check(given, 7, steps, [(B,)])

    def test_variables_without_a_term_stay(self):
        given = {0: [(yes(reply(7, f(3))),)], 7: [(no(reply(7, 0)),)]}
        steps = [("given", 0, 0), ("given", 7, 0), ("superpose", 1, {0: f(3)}, 0, 0, (), 0, {}, 0, 0), ("clean", 2)]
        self.check(given, 7, steps, [(f(0),)])

    def test_derivations_that_do_not_refute_have_no_result(self):
        for steps in [[], asked(0)[:-1], asked(0) + [("given", 7, 1)], asked(0) + [("given", 9, 0)]]:
            self.assertIsNone(answers(GIVEN, 7, steps))

    def test_the_list_is_new(self):
        answers(GIVEN, 7, asked(0)).clear()
        self.check(GIVEN, 7, asked(0), [(A,)])
        self.assertIs(type(answers(GIVEN, 7, asked(0))), list)


class InstancesTest(unittest.TestCase):
    def chain(self, many):
        """A derivation of [] with this many instances: one line is used again for one constant after another."""
        given = {0: [tuple(yes(reply(7, term)) for term in constants(many))], 7: [(no(reply(7, 0)),)]}
        steps = [("given", 7, 0), ("given", 0, 0)]
        for term in constants(many):
            steps.append(("superpose", 0, {0: term}, 0, 0, (), len(steps) - 1, {}, 0, 0))
            steps.append(("clean", len(steps) - 1))
        return given, steps

    def test_500_and_501_instances(self):
        # Each constant has one instance of line 0 and one of each of its two lines, and line 1 has one.
        given, steps = self.chain(166)
        self.assertEqual(len(answers(given, 7, steps)), 166)
        given, steps = self.chain(167)
        self.assertIsNone(answers(given, 7, steps))
        # 1 + 166 * 3 = 499 instances; a further line has one more.
        given, steps = self.chain(166)
        for many in (500, 501, 502):
            steps.append(("clean", len(steps) - 1))
            self.assertEqual(answers(given, 7, steps) is None, many > 500)

    def test_instances_that_are_found_twice_count_once(self):
        given = {0: [tuple([yes(reply(7, A))] * 150)], 7: [(no(reply(7, 0)),)]}
        steps = [("given", 7, 0), ("given", 0, 0)]
        for k in range(150):
            steps.append(("superpose", 0, {0: A}, 0, 0, (), len(steps) - 1, {}, k, 0))
        steps.append(("clean", len(steps) - 1))
        # 1 for line 0, 1 for line 1, 150 and 1 for the other lines.
        self.assertEqual(answers(given, 7, steps), [(A,)])
        for _ in range(347):
            steps.append(("clean", len(steps) - 1))
        self.assertEqual(answers(given, 7, steps), [(A,)])
        steps.append(("clean", len(steps) - 1))
        self.assertIsNone(answers(given, 7, steps))

    def test_the_first_instance_counts(self):
        given = {7: [()]}
        steps = [("given", 7, 0)] + [("clean", k) for k in range(499)]
        self.assertEqual(answers(given, 7, steps), [])
        steps.append(("clean", 499))
        self.assertIsNone(answers(given, 7, steps))

    def test_lines_without_instances_do_not_count(self):
        given = {0: [()], 7: [(no(reply(7, 0)),)]}
        steps = [("given", 7, 0)] * 600 + [("given", 0, 0)]
        self.assertEqual(answers(given, 7, steps), [])


def constants(many):
    return [((2, n, 0), ()) for n in range(many)]
