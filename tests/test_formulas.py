import random
import unittest

from lastproof.formulas.formulas import free_variables
from tests.formula_samples import random_formula
from tests.samples import A, f, p, q


def atom(term):
    return ("atom", term)


def naive_free(formula, bound=()):
    """The free variables word by word, with repetitions."""
    word = formula[0]
    if word in ("all", "some"):
        return naive_free(formula[2], bound + (formula[1],))
    if word in ("atom", "equal"):
        found = []
        todo = list(formula[1:])
        while todo:
            here = todo.pop(0)
            if isinstance(here, int):
                found += [here] if here not in bound else []
            else:
                todo = list(here[1]) + todo
        return found
    return [variable for part in formula[1:] for variable in naive_free(part, bound)]


class FreeVariablesTest(unittest.TestCase):
    def test_basic_formulas(self):
        self.assertEqual(free_variables(atom(p())), [])
        self.assertEqual(free_variables(atom(p(A, 3, f(1), 3))), [3, 1])
        self.assertEqual(free_variables(("equal", f(2), 0)), [2, 0])
        self.assertEqual(free_variables(("equal", 0, f(2))), [0, 2])

    def test_each_form(self):
        one, two = atom(p(5, 1)), atom(q(2, 5))
        self.assertEqual(free_variables(("not", one)), [5, 1])
        for word in ("and", "or", "implies", "iff"):
            self.assertEqual(free_variables((word, one, two)), [5, 1, 2])
            self.assertEqual(free_variables((word, two, one)), [2, 5, 1])
        for word in ("all", "some"):
            self.assertEqual(free_variables((word, 5, one)), [1])
            self.assertEqual(free_variables((word, 7, one)), [5, 1])

    def test_bound_in_one_part_and_free_in_another(self):
        bound, free = ("all", 0, atom(p(0, 1))), atom(q(2, 0))
        self.assertEqual(free_variables(("and", bound, free)), [1, 2, 0])
        self.assertEqual(free_variables(("and", free, bound)), [2, 0, 1])
        self.assertEqual(free_variables(("or", bound, ("some", 0, free))), [1, 2])

    def test_a_quantifier_inside_one_of_the_same_variable(self):
        inside = ("some", 0, atom(p(0, 1)))
        self.assertEqual(free_variables(("all", 0, inside)), [1])
        self.assertEqual(free_variables(("all", 0, ("and", inside, atom(q(0, 2))))), [1, 2])
        self.assertEqual(free_variables(("all", 1, ("and", ("all", 1, atom(p(1))), atom(p(1, 0))))), [0])

    def test_the_order_is_that_of_the_first_free_occurrence(self):
        formula = ("and", ("all", 3, atom(p(3, 9))), ("or", atom(q(4, 9)), atom(q(3, 4))))
        self.assertEqual(free_variables(formula), [9, 4, 3])

    def test_against_a_plain_restatement(self):
        source = random.Random(40)
        for _ in range(500):
            formula = random_formula(source, 5, (0, 1, 2))
            self.assertEqual(free_variables(formula), list(dict.fromkeys(naive_free(formula))))

    def test_deep_formulas(self):
        formula = atom(p(1, 0))
        for k in range(300):
            formula = ("not", formula) if k % 2 else ("and", formula, atom(p(0)))
        self.assertEqual(free_variables(formula), [1, 0])

    def test_the_list_is_new(self):
        formula = atom(p(0))
        free_variables(formula).append(7)
        self.assertEqual(free_variables(formula), [0])
        self.assertIs(type(free_variables(formula)), list)
