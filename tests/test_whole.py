"""What the document promises over the whole program, on problems that end and on random ones."""

import random
import unittest

from lastproof.derivations.growing import axioms_below, derive
from lastproof.derivations.notation import derivation_text, read_derivation
from lastproof.derivations.questions import answers
from lastproof.derivations.searching import accepts_world, find_world
from lastproof.derivations.steps import check, resting
from lastproof.formulas.formulas import quantified
from lastproof.formulas.meaning import clause_holds, holds, uses_of
from lastproof.problems.judges import clauses_of_problem, judge_derivation, judge_set, judge_world
from lastproof.problems.session import Session
from lastproof.terms.substitutions import put
from lastproof.terms.terms import variables
from tests.formula_samples import random_world, uses_of_clauses


def random_choice(source, session):
    """A suggested or any other choice."""
    if source.random() < 0.4:
        return session.suggestion()
    kept = source.choice(session.engine.waiting)
    return kept.number, source.choice([None] + [k for k, literal in enumerate(kept.clause) if not literal[0]])


def is_large(session):
    return max([len(kept.clause) for kept in session.engine.waiting], default=0) > 5


def random_term_text(source, bound, depth):
    if bound and source.random() < 0.5:
        return source.choice(bound)
    if depth == 0 or source.random() < 0.6:
        return source.choice("ab")
    inside = random_term_text(source, bound, depth - 1)
    return f"f({inside})" if source.random() < 0.7 else f"g({inside}, {random_term_text(source, bound, depth - 1)})"


def random_formula_text(source, bound, depth, quantifiers):
    kind = source.randrange(9) if depth else source.randrange(2)
    if kind == 0:
        name, many = source.choice([("p", 1), ("q", 2), ("r", 0)])
        terms = ", ".join(random_term_text(source, bound, 1) for _ in range(many))
        return f"{name}({terms})" if many else name
    if kind == 1:
        sign = source.choice(["=", "!="])
        return f"{random_term_text(source, bound, 1)} {sign} {random_term_text(source, bound, 1)}"
    if kind == 2:
        return f"not ({random_formula_text(source, bound, depth - 1, quantifiers)})"
    if kind in (3, 4) and quantifiers:
        name = "xyzuvw"[len(bound)]
        return f"({source.choice(['all', 'some'])} {name}. {random_formula_text(source, bound + [name], depth - 1, quantifiers)})"
    word = source.choice(["and", "or", "implies", "iff"])
    parts = [random_formula_text(source, bound, depth - 1, quantifiers) for _ in range(2)]
    return f"(({parts[0]}) {word} ({parts[1]}))"


def random_problem(source, quantifiers):
    lines = [f"axiom a{k}: {random_formula_text(source, [], source.choice([1, 2, 3]), quantifiers)}"
             for k in range(source.choice([1, 2, 3, 4]))]
    if source.random() < 0.5:
        lines.append(f"goal g: {random_formula_text(source, [], 2, quantifiers)}")
    elif quantifiers and source.random() < 0.5:
        lines.append(f"question g: some x. {random_formula_text(source, ['x'], 2, quantifiers)}")
    if source.random() < 0.3:
        lines.append("weight f 3\nweight p 2")
    return "\n".join(lines)


class EndsTest(unittest.TestCase):
    def check_session(self, session):
        """What holds in each state of a session."""
        text = session.problem_text()
        names = session.state.names
        for kept in session.engine.everything():
            steps = derive(session.engine, kept.number)
            lines = check(session.engine.given, steps)
            self.assertEqual((len(lines), lines[-1]), (len(steps), kept.clause))
            self.assertEqual(resting(steps, len(steps)), axioms_below(session.engine, kept.number))
            self.assertEqual(read_derivation(derivation_text(steps, names), names), steps)
            self.assertLessEqual(set(session.describe(kept.number)[3]), {told.name for told in session.state.told})
        if session.status() == "refuted":
            self.assertTrue(judge_derivation(text, session.derivation())[0])
            for size in (1, 2, 3):
                self.assertIsNone(session.small_world(size))
        elif session.status() == "saturated":
            self.assertEqual(judge_set(text, session.saturated_set()), (True, True))

    def check_other_order(self, source, session):
        """A session of the same text does not come to another end."""
        other = Session(session.problem_text())
        for _ in range(25):
            if other.status() != "open" or is_large(other):
                break
            other.choose(*random_choice(source, other))
        self.assertNotEqual(other.status(), {"refuted": "saturated", "saturated": "refuted"}[session.status()])

    def test_problems_without_variables_end(self):
        source = random.Random(118)
        counts = {}
        for _ in range(120):
            text = random_problem(source, False)
            ends = []
            for way in range(2):
                session = Session(text)
                for _ in range(300):
                    if session.status() != "open":
                        break
                    session.choose(*(random_choice(source, session) if way else session.suggestion()))
                ends.append(session.status())
                self.check_session(session)
            self.assertNotEqual(ends[0], "open")
            self.assertEqual(ends[0], ends[1])
            counts[ends[0]] = counts.get(ends[0], 0) + 1
            # The end is the one that worlds tell: as many individuals as constants and terms are enough.
            if ends[0] == "saturated":
                self.assertTrue(any(session.small_world(size) is not None for size in range(1, 7)), text)
        self.assertGreater(min(counts.values()), 15)

    def test_random_problems_with_edits(self):
        source = random.Random(119)
        counts = {}
        for _ in range(120):
            session = Session(random_problem(source, True))
            for _ in range(25):
                if session.status() != "open" or is_large(session):
                    break
                session.choose(*random_choice(source, session))
                if source.random() < 0.1:
                    self.random_edit(source, session)
            self.check_session(session)
            if session.status() != "open":
                self.check_other_order(source, session)
            counts[session.status()] = counts.get(session.status(), 0) + 1
        self.assertGreater(counts["refuted"], 15)
        self.assertGreater(counts["saturated"], 15)

    def random_edit(self, source, session):
        """Take something back or add something; what rests on what is still told stays, the rest goes."""
        before = {kept.number: session.describe(kept.number) for kept in session.engine.everything()}
        kind = source.randrange(4)
        if kind == 0 and session.state.told:
            session.edit("without " + source.choice(session.state.told).name)
        elif kind == 1:
            session.edit(f"axiom b{session.state.next_number}: {random_formula_text(source, [], 2, True)}")
        elif kind == 2:
            session.undo()
        else:
            session.redo()
        names = {told.name for told in session.state.told}
        for number, row in before.items():
            kept = session.engine.find(number)
            self.assertEqual(kept is not None, set(row[3]) <= names)
            if kept is not None:
                self.assertEqual((session.describe(number)[0], session.describe(number)[3]), (row[0], row[3]))
        self.check_session(session)

    def test_chains_of_rules(self):
        for many in (1, 5, 30):
            rules = [f"axiom r{k}: all x. p{k}(x) implies p{k + 1}(f(x))" for k in range(many)]
            end = "a"
            for _ in range(many):
                end = f"f({end})"
            session = Session("\n".join(["axiom start: p0(a)"] + rules + [f"goal end: p{many}({end})"]))
            self.assertEqual(session.run(1000), "refuted")
            rests = judge_derivation(session.problem_text(), session.derivation())[2]
            self.assertEqual(rests, ["start"] + [f"r{k}" for k in range(many)] + ["end"])
            # Without one of the rules the goal does not follow.
            session.edit(f"without r{many // 2}")
            self.assertEqual(session.run(1000), "saturated")
            self.assertEqual(judge_set(session.problem_text(), session.saturated_set()), (True, True))
            session.undo()
            self.assertEqual(session.run(1000), "refuted")

    def test_equations_without_variables(self):
        lines = [f"axiom e{k}: c{k} = c{k + 1}" for k in range(12)]
        session = Session("\n".join(lines + ["goal end: f(c0, c12) = f(c6, c3)"]))
        self.assertEqual(session.run(1000), "refuted")
        self.check_session(session)
        session.edit("without e3")
        self.assertEqual(session.run(1000), "saturated")
        self.check_session(session)
        self.assertIsNotNone(session.small_world(2))

    def test_known_problems(self):
        group = """axiom assoc: all x y z. m(m(x, y), z) = m(x, m(y, z))
axiom left: all x. m(e, x) = x
axiom inverse: all x. m(i(x), x) = e
"""
        for text in [group + "goal end: all x. m(x, e) = x", group + "goal end: all x. m(x, i(x)) = e",
                     group + "axiom square: all x. m(x, x) = e\ngoal end: all x y. m(x, y) = m(y, x)",
                     "goal end: some x. all y. p(x) implies p(y)",
                     "goal end: not (some x. all y. q(x, y) iff not q(y, y))",
                     "axiom a: all x y. p(x, y) implies p(y, x)\naxiom b: all x y z. (p(x, y) and p(y, z)) implies p(x, z)\n"
                     "axiom c: all x. some y. p(x, y)\ngoal end: all x. p(x, x)",
                     "axiom a: all x. x = a or x = b\naxiom b: p(a) and p(b)\ngoal end: all x. p(x)"]:
            session = Session(text)
            self.assertEqual(session.run(300), "refuted", text)
            self.assertTrue(judge_derivation(text, session.derivation())[0])
            self.assertIsNone(session.small_world(2))
        session = Session(group + "goal end: all x y. m(x, y) = m(y, x)")
        self.assertEqual(session.run(20), "open")
        self.assertEqual(judge_world(session.problem_text(), session.small_world(6)), (6, True))
        for size in range(1, 5):
            self.assertIsNone(session.small_world(size))

    def test_saturated_problems(self):
        for text in ["axiom a: all x. p(x) implies p(f(x))\naxiom b: p(c)\ngoal end: p(d)",
                     "axiom a: all x. f(f(x)) = x\ngoal end: all x. f(x) = x",
                     "axiom a: all x y. p(x, y) implies p(y, x)\ngoal end: p(c, d)",
                     "axiom a: all x. not p(x, x)\ngoal end: some x y. p(x, y)"]:
            session = Session(text)
            for number in (0, 1):
                negated = [k for k, literal in enumerate(session.engine.find(number).clause) if not literal[0]]
                session.choose(number, negated[0] if negated else None)
            session.run(50)
            if session.status() == "saturated":
                self.assertEqual(judge_set(text, session.saturated_set()), (True, True))
            self.assertNotEqual(session.status(), "refuted")
            self.assertIsNotNone(session.small_world(2))


class MeaningTest(unittest.TestCase):
    def test_lines_hold_where_the_given_clauses_hold(self):
        source = random.Random(92)
        many = 0
        for _ in range(150):
            session = Session(random_problem(source, True))
            for _ in range(8):
                if session.status() != "open" or is_large(session):
                    break
                session.choose(*random_choice(source, session))
            given = session.engine.given
            clauses = [one for rows in given.values() for one in rows]
            world = random_world(source, uses_of_clauses(clauses), source.choice([1, 2]))
            good = [axiom for axiom in given if all(clause_holds(one, world) for one in given[axiom])]
            for kept in session.engine.everything():
                steps = derive(session.engine, kept.number)
                if set(resting(steps, len(steps))) <= set(good):
                    many += 1
                    for line in check(given, steps):
                        self.assertTrue(clause_holds(line, world))
        self.assertGreater(many, 150)

    def test_worlds_that_are_found(self):
        source = random.Random(104)
        many = 0
        for _ in range(150):
            session = Session(random_problem(source, True))
            formulas = session.state.against()
            for size in (1, 2):
                text = session.small_world(size)
                found = find_world(formulas, size)
                self.assertEqual(text is None, found is None)
                if text is not None:
                    many += 1
                    self.assertTrue(accepts_world(found, formulas))
                    self.assertEqual(judge_world(session.problem_text(), text), (size, True))
        self.assertGreater(many, 100)

    def test_texts_of_clauses(self):
        source = random.Random(61)
        for _ in range(60):
            session = Session(random_problem(source, True))
            rows = clauses_of_problem(session.problem_text())
            self.assertEqual([name for name, _ in rows], [told.name for told in session.state.told])
            for kept in session.engine.waiting:
                self.assertEqual(kept.made[0], "given")


class AnswersTest(unittest.TestCase):
    """Answers over derivations of reasoners, whose clauses are changed on the way."""

    def rows(self, text, count=200):
        session = Session(text)
        self.assertEqual(session.run(count), "refuted", text)
        return session.answer_rows()

    def test_facts_and_rules(self):
        self.assertEqual(self.rows("axiom a: p(c)\nquestion q: some x. p(x)"), [["c"]])
        self.assertEqual(self.rows("axiom a: q(c, d)\naxiom b: all x y. q(x, y) implies p(y, f(x))\n"
                                   "question q: some x y. p(x, y)"), [["d", "f(c)"]])
        self.assertEqual(self.rows("axiom a: all x. p(x, x)\nquestion q: some x y. p(x, y)"), [["?0", "?0"]])
        self.assertEqual(self.rows("axiom a: all x y. p(f(y), x)\nquestion q: some x y. p(x, y)"), [["f(?0)", "?1"]])

    def test_clauses_that_are_rewritten(self):
        self.assertEqual(self.rows("axiom a: p(f(f(c)))\naxiom b: all x. f(x) = x\nquestion q: some x. p(x)"), [["c"]])
        self.assertEqual(self.rows("axiom a: c = d\naxiom b: p(d)\nquestion q: some x. p(x)"), [["c"]])

    def test_indefinite_answers(self):
        rows = self.rows("axiom a: p(c) or p(d)\nquestion q: some x. p(x)")
        self.assertEqual(sorted(rows), [["c"], ["d"]])
        rows = self.rows("axiom a: all x. p(x, c) or p(d, x)\nquestion q: some x y. p(x, y)")
        self.assertEqual(sorted(rows), sorted([list(row) for row in rows]))
        self.assertGreater(len(rows), 0)

    def test_a_question_about_what_does_not_exist_by_name(self):
        self.assertEqual(self.rows("axiom a: some y. p(y)\nquestion q: some x. p(x)"), [["$0_0"]])

    def test_rows_hold_in_worlds_of_the_axioms(self):
        # In each world of the axioms, the rest of the question holds for one of the rows.
        source = random.Random(108)
        many = 0
        for _ in range(250):
            axioms = [f"axiom a{k}: {random_formula_text(source, [], 2, False)}" for k in range(source.choice([1, 2]))]
            question = random_formula_text(source, ["x"], 1, False)
            session = Session("\n".join(axioms + [f"question who: some x. {question}"]))
            for _ in range(40):
                if session.status() != "open" or is_large(session):
                    break
                session.choose(*session.suggestion())
            if session.status() == "refuted":
                many += self.check_rows(source, session)
        self.assertGreater(many, 30)

    def check_rows(self, source, session):
        state = session.state
        number = state.question_told().number
        rows = answers(session.engine.given, number, session.refuting_steps())
        self.assertEqual(len(rows), len(session.answer_rows()))
        axioms = [told.formula for told in state.told if told.kind == "axiom"]
        sought, rest = state.question_told().formula[1:]
        parts = []
        for (term,) in rows:
            changed = self.instance(rest, sought, term)
            parts.append(quantified("all", variables(term), changed))
        uses = uses_of(axioms + parts + [state.question_told().formula])
        found = 0
        for _ in range(10):
            world = random_world(source, uses, source.choice([1, 2]))
            if all(holds(formula, world) for formula in axioms):
                found += 1
                # With several rows that have variables of their own, each way to take them must have one that holds.
                if len(rows) < 2 or not any(variables(term) for (term,) in rows):
                    self.assertTrue(any(holds(part, world) for part in parts))
        return found > 0

    def instance(self, formula, sought, term):
        if formula[0] in ("atom", "equal"):
            return (formula[0],) + tuple(put(side, {sought: term}) for side in formula[1:])
        return (formula[0],) + tuple(self.instance(part, sought, term) for part in formula[1:])
