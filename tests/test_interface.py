"""The names of the interface stand in their files, with the arguments that the document names."""

import importlib
import inspect
import unittest

FUNCTIONS = {
    "lastproof.terms.symbols": {
        "predicate": ["n"], "function": ["n"], "skolem": ["a", "k"], "part_name": ["a", "k"], "answer": ["a"],
        "comes_before": ["first", "second"],
    },
    "lastproof.terms.terms": {
        "is_variable": ["term"], "size": ["term"], "depth": ["term"], "occurrences": ["term", "variable"],
        "variables": ["term"], "is_atom": ["term"], "is_individual": ["term"], "is_atomic": ["term"],
    },
    "lastproof.terms.substitutions": {
        "put": ["term", "substitution"], "put_literal": ["literal", "substitution"],
        "put_clause": ["clause", "substitution"], "shifted": ["term", "amount"],
        "shifted_clause": ["clause", "amount"],
    },
    "lastproof.terms.places": {"places": ["term"], "at": ["term", "place"], "put_at": ["term", "place", "new"]},
    "lastproof.terms.literals": {
        "side": ["literal", "k"], "with_side": ["literal", "k", "term"], "same": ["first", "second"],
        "is_well_formed_literal": ["literal"], "is_well_formed": ["clause"], "literal_size": ["literal"],
        "clause_size": ["clause"], "clause_depth": ["clause"], "clause_variables": ["clause"],
        "renumbered": ["clause"],
    },
    "lastproof.order.weights": {
        "symbol_weight": ["weights", "symbol"], "term_weight": ["weights", "term"],
        "literal_weight": ["weights", "literal"], "clause_weight": ["weights", "clause"],
    },
    "lastproof.order.ordering": {
        "greater": ["weights", "first", "second"], "compare": ["weights", "first", "second"],
    },
    "lastproof.order.multisets": {
        "literal_greater": ["weights", "first", "second"], "clause_greater": ["weights", "first", "second"],
        "is_greatest": ["weights", "clause", "k"], "is_greatest_alone": ["weights", "clause", "k"],
    },
    "lastproof.unify.unifying": {"unify": ["pairs"]},
    "lastproof.unify.matching": {"match": ["pattern", "term", "told"]},
    "lastproof.texts.writing": {
        "symbol_text": ["symbol", "names"], "term_text": ["term", "names"], "literal_text": ["literal", "names"],
        "clause_text": ["clause", "names"],
    },
    "lastproof.texts.reading": {
        "read_term": ["text", "names"], "read_atom_or_term": ["text", "names"], "read_clause": ["text", "names"],
    },
    "lastproof.formulas.tokens": {"tokens": ["line_text", "line"]},
    "lastproof.formulas.parsing": {"parse_formula": ["items", "end", "names"]},
    "lastproof.formulas.formulas": {"free_variables": ["formula"]},
    "lastproof.formulas.meaning": {
        "holds": ["formula", "world"], "clause_holds": ["clause", "world"], "uses_of": ["formulas"],
    },
    "lastproof.clauses.clausing": {"clauses_of": ["number", "formula"]},
    "lastproof.clauses.naming": {"named": ["number", "formula"]},
    "lastproof.clauses.inward": {"inward": ["formula", "positive"]},
    "lastproof.infer.acting": {
        "may_act": ["weights", "clause", "selected", "k", "substitution"],
        "may_give": ["weights", "clause", "selected", "k", "substitution"],
        "may_lead": ["weights", "literal", "side_index", "substitution"],
    },
    "lastproof.infer.superposing": {"superpositions": ["weights", "c", "selected_c", "d", "selected_d"]},
    "lastproof.infer.resolving": {"resolutions": ["weights", "c", "selected"]},
    "lastproof.infer.factoring": {"factorings": ["weights", "c", "selected"]},
    "lastproof.simplify.parts": {"part_of": ["c", "d"]},
    "lastproof.simplify.rewriting": {"rewrite": ["weights", "equation", "clause"]},
    "lastproof.reasoner.settling": {
        "settle": ["weights", "chosen", "clause"], "first_part": ["kept", "clause"], "is_lighter": ["clause", "other"],
    },
    "lastproof.simplify.cleaning": {"cleaned": ["clause"], "always_holds": ["clause"]},
    "lastproof.derivations.steps": {
        "conclude": ["given", "lines", "step"], "check": ["given", "steps"], "refutes": ["given", "steps"],
        "resting": ["steps", "count"],
    },
    "lastproof.derivations.questions": {
        "sought": ["formula"], "question_axiom": ["number", "formula"], "answers": ["given", "number", "steps"],
    },
    "lastproof.derivations.notation": {
        "derivation_text": ["steps", "names"], "read_derivation": ["text", "names"],
    },
    "lastproof.derivations.growing": {
        "needed": ["reasoner", "number"], "derive": ["reasoner", "number"], "axioms_below": ["reasoner", "number"],
    },
    "lastproof.derivations.saturated": {
        "shows": ["weights", "pairs", "clause"], "accepts_set": ["weights", "pairs"], "set_text": ["pairs", "names"],
        "read_set": ["text", "names"],
    },
    "lastproof.derivations.searching": {"accepts_world": ["world", "formulas"], "find_world": ["formulas", "size"]},
    "lastproof.derivations.tables": {"world_text": ["world", "names"], "read_world": ["text", "names", "uses"]},
    "lastproof.problems.judges": {
        "clauses_of_problem": ["text"], "judge_derivation": ["problem", "derivation"], "judge_set": ["problem", "text"],
        "judge_world": ["problem", "text"], "compare_terms": ["problem", "first", "second"],
    },
    "lastproof.problems.reading": {"read_problem": ["text"], "edited": ["problem", "text"]},
}

# Each class with the arguments that it is called with, and the arguments of its methods.
CLASSES = {
    ("lastproof.formulas.worlds", "World"): (["size", "tables"], {}),
    ("lastproof.infer.conclusions", "Conclusion"): (
        ["kind", "clause", "literal", "side", "place", "other_literal", "other_side", "first", "second"], {}),
    ("lastproof.simplify.rewriting", "Rewriting"): (
        ["clause", "literal", "side", "place", "equation_side", "substitution"], {}),
    ("lastproof.reasoner.kept", "Kept"): (["number", "clause", "selected", "made", "changes"], {}),
    ("lastproof.reasoner.kept", "Gone"): (["kept", "changes", "reason"], {}),
    ("lastproof.reasoner.reasoner", "Reasoner"): (["weights", "given"], {
        "choose": ["number", "literal"], "suggestion": [], "run": ["count"], "status": [], "turn": ["weights", "given"],
        "find": ["number"], "everything": [],
    }),
    ("lastproof.problems.session", "Session"): (["text"], {
        "edit": ["text"], "undo": [], "redo": [], "choose": ["number", "literal"], "run": ["count"], "suggestion": [],
        "status": [], "numbers": [], "describe": ["number"], "problem_text": [], "derivation": [],
        "derivation_of": ["number"], "saturated_set": [], "answer_rows": [], "small_world": ["size"],
    }),
    ("lastproof.problems.problem", "Told"): (["name", "number", "kind", "formula", "line"], {}),
    ("lastproof.problems.problem", "Problem"): (["names", "heavy", "told", "next_number"], {
        "symbol_weights": [], "held": [], "given_clauses": [], "against": [], "question_told": [],
        "name_of": ["number"], "as_text": [],
    }),
}


class InterfaceTest(unittest.TestCase):
    def test_each_function_stands_in_its_file_with_its_arguments(self):
        for module_name, functions in FUNCTIONS.items():
            module = importlib.import_module(module_name)
            for name, parameters in functions.items():
                told = getattr(module, name)
                self.assertEqual(told.__module__, module_name, name)
                self.assertEqual(list(inspect.signature(told).parameters), parameters, name)

    def test_each_class_stands_in_its_file_with_its_methods(self):
        for (module_name, class_name), (parameters, methods) in CLASSES.items():
            told = getattr(importlib.import_module(module_name), class_name)
            self.assertEqual(told.__module__, module_name)
            self.assertEqual(list(inspect.signature(told).parameters), parameters, class_name)
            for name, arguments in methods.items():
                self.assertEqual(list(inspect.signature(vars(told)[name]).parameters), ["self"] + arguments, name)
