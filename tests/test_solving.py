import itertools
import random
import unittest

from lastproof.derivations.grounding import Grounding, plain
from lastproof.derivations.solving import Solver
from lastproof.formulas.meaning import holds
from tests.formula_samples import random_formula, random_world


def naive_solve(many, clauses, cells):
    """The least choice of a literal for each cell that leaves the clauses satisfiable, by trying all."""
    for row in itertools.product(*cells):
        told = set(row)
        if any(-literal in told for literal in told):
            continue
        if any(len(told & set(cell)) != 1 for cell in cells):
            continue
        free = [n for n in range(1, many + 1) if n not in told and -n not in told]
        for signs in itertools.product((1, -1), repeat=len(free)):
            full = told | {sign * n for sign, n in zip(signs, free)}
            if all(any(literal in full for literal in clause) for clause in clauses):
                return [cell.index(literal) for cell, literal in zip(cells, row)]
    return None


def stepwise(clauses, cells, row):
    """The least choice for the cells behind a beginning, or None."""
    if len(row) == len(cells):
        return row
    for k, literal in enumerate(cells[len(row)]):
        # Where a literal of several holds, the other ones of its cell do not.
        others = [-other for other in cells[len(row)] if other not in (literal, -literal)]
        told = {literal, *others}
        left = [[one for one in clause if -one not in told] for clause in clauses if not told & set(clause)]
        found = stepwise(left, cells, row + [k]) if [] not in left else None
        if found is not None:
            return found
    return None


class SolverTest(unittest.TestCase):
    def solved(self, many, clauses, cells):
        before = [list(clause) for clause in clauses]
        solver = Solver(many, clauses, cells)
        found = [solver.value_of(cell) for cell in cells] if solver.solve() else None
        self.assertEqual(clauses, before)
        return found

    def test_small_cases(self):
        self.assertEqual(self.solved(0, [], []), [])
        self.assertIsNone(self.solved(1, [[]], []))
        self.assertIsNone(self.solved(1, [[1], [-1]], [[-1, 1]]))
        self.assertEqual(self.solved(1, [[1]], [[-1, 1]]), [1])
        self.assertEqual(self.solved(2, [[1, 2]], [[-1, 1], [-2, 2]]), [0, 1])
        self.assertEqual(self.solved(2, [[1, 2]], [[-2, 2], [-1, 1]]), [0, 1])
        self.assertEqual(self.solved(3, [[1, 2, 3], [-1, -2], [-1, -3], [-2, -3], [-1]], [[1, 2, 3]]), [1])

    def test_truth_values_against_all_choices(self):
        source = random.Random(1)
        counts = [0, 0]
        for _ in range(800):
            many = source.randrange(1, 9)
            clauses = []
            for _ in range(source.randrange(1, 4 * many + 2)):
                names = source.sample(range(1, many + 1), min(many, source.choice([1, 2, 2, 3, 3])))
                clauses.append([source.choice([-1, 1]) * name for name in names])
            order = source.sample(range(1, many + 1), many)
            cells = [[-name, name] for name in order]
            expected = naive_solve(many, clauses, cells)
            counts[expected is not None] += 1
            self.assertEqual(self.solved(many, clauses, cells), expected)
        self.assertGreater(min(counts), 100)

    def test_cells_of_several_values_against_all_choices(self):
        source = random.Random(2)
        counts = [0, 0]
        for _ in range(500):
            cells, clauses, many = [], [], 0
            for _ in range(source.randrange(1, 4)):
                cell = list(range(many + 1, many + 4))
                many += 3
                cells.append(cell)
                clauses.append(cell)
                clauses += [[-one, -other] for one, other in itertools.combinations(cell, 2)]
            for _ in range(source.randrange(12)):
                names = source.sample(range(1, many + 1), source.choice([1, 2, 3]))
                clauses.append([source.choice([-1, -1, 1]) * name for name in names])
            source.shuffle(clauses)
            expected = naive_solve(many, clauses, cells)
            counts[expected is not None] += 1
            self.assertEqual(self.solved(many, clauses, cells), expected)
        self.assertGreater(min(counts), 50)

    def test_many_cells_against_going_back_step_by_step(self):
        source = random.Random(4)
        counts = [0, 0]
        for _ in range(150):
            cells, clauses, many = [], [], 0
            for _ in range(10):
                size = source.choice([2, 3, 4])
                cell = list(range(many + 1, many + size + 1)) if size > 2 else [-many - 1, many + 1]
                many += size if size > 2 else 1
                cells.append(cell)
                if size > 2:
                    clauses.append(cell)
                    clauses += [[-one, -other] for one, other in itertools.combinations(cell, 2)]
            for _ in range(source.choice([60, 90, 120])):
                names = source.sample(range(1, many + 1), 3)
                clauses.append([source.choice([-1, -1, 1]) * name for name in names])
            source.shuffle(cells)
            expected = stepwise(clauses, cells, [])
            counts[expected is not None] += 1
            self.assertEqual(self.solved(many, clauses, cells), expected)
        self.assertGreater(min(counts), 20, counts)

    def test_pigeons(self):
        # Seven pigeons do not fit into six holes, which needs many steps back.
        def literal(pigeon, hole):
            return 6 * pigeon + hole + 1

        clauses = [[literal(k, hole) for hole in range(6)] for k in range(7)]
        clauses += [[-literal(k, hole), -literal(n, hole)] for k in range(7) for n in range(k) for hole in range(6)]
        cells = [[-n, n] for n in range(1, 43)]
        self.assertIsNone(self.solved(42, clauses, cells))
        fewer = [clause for clause in clauses if all(abs(n) <= 36 for n in clause)]
        self.assertIsNotNone(self.solved(36, fewer, cells[:36]))


class PlainTest(unittest.TestCase):
    def test_the_same_meaning_with_few_words(self):
        source = random.Random(3)
        for _ in range(300):
            formula = random_formula(source, 4)
            changed = plain(formula)
            self.assertLessEqual(self.words(changed), {"atom", "equal", "not", "or", "iff", "some"})
            uses = [((1, n, 0), many) for n in range(3) for many in range(3)] + [((2, 9, 0), 0), ((2, 8, 0), 1)]
            world = random_world(source, uses, source.choice([1, 2, 3]))
            self.assertEqual(holds(changed, world), holds(formula, world))

    def words(self, formula):
        found = {formula[0]}
        if formula[0] not in ("atom", "equal"):
            for part in formula[1:]:
                if isinstance(part, tuple):
                    found |= self.words(part)
        return found


class GroundingTest(unittest.TestCase):
    def test_the_cells_of_tables(self):
        grounding = Grounding(3, [((1, 0, 0), 1), ((2, 1, 0), 2), ((2, 2, 0), 0)])
        self.assertEqual([len(grounding.tables[use]) for use in grounding.tables], [3, 9, 1])
        self.assertEqual({len(cell) for cell in grounding.tables[((2, 1, 0), 2)]}, {3})
        self.assertEqual({len(cell) for cell in grounding.tables[((1, 0, 0), 1)]}, {2})
