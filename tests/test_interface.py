"""The names of the interface stand in their files, with the arguments that the document names."""

import importlib
import inspect
import unittest

FUNCTIONS = {
    "lastproof.terms.symbols": {
        "predicate": ["n"], "function": ["n"], "skolem": ["a", "k"], "part_name": ["a", "k"], "answer": ["a"],
        "comes_before": ["first", "second"],
    },
    "lastproof.terms.terms": {
        "is_variable": ["term"], "size": ["term"], "depth": ["term"], "occurrences": ["term", "variable"],
        "variables": ["term"], "is_atom": ["term"], "is_individual": ["term"], "is_atomic": ["term"],
    },
    "lastproof.terms.substitutions": {
        "put": ["term", "substitution"], "put_literal": ["literal", "substitution"],
        "put_clause": ["clause", "substitution"], "shifted": ["term", "amount"],
        "shifted_clause": ["clause", "amount"],
    },
    "lastproof.terms.places": {"places": ["term"], "at": ["term", "place"], "put_at": ["term", "place", "new"]},
    "lastproof.terms.literals": {
        "side": ["literal", "k"], "with_side": ["literal", "k", "term"], "same": ["first", "second"],
        "is_well_formed_literal": ["literal"], "is_well_formed": ["clause"], "literal_size": ["literal"],
        "clause_size": ["clause"], "clause_depth": ["clause"], "clause_variables": ["clause"],
        "renumbered": ["clause"],
    },
    "lastproof.order.weights": {
        "symbol_weight": ["weights", "symbol"], "term_weight": ["weights", "term"],
        "literal_weight": ["weights", "literal"], "clause_weight": ["weights", "clause"],
    },
    "lastproof.order.ordering": {
        "greater": ["weights", "first", "second"], "compare": ["weights", "first", "second"],
    },
    "lastproof.order.multisets": {
        "literal_greater": ["weights", "first", "second"], "clause_greater": ["weights", "first", "second"],
        "is_greatest": ["weights", "clause", "k"], "is_greatest_alone": ["weights", "clause", "k"],
    },
    "lastproof.unify.unifying": {"unify": ["pairs"]},
    "lastproof.unify.matching": {"match": ["pattern", "term", "told"]},
    "lastproof.texts.writing": {
        "symbol_text": ["symbol", "names"], "term_text": ["term", "names"], "literal_text": ["literal", "names"],
        "clause_text": ["clause", "names"],
    },
    "lastproof.texts.reading": {
        "read_term": ["text", "names"], "read_atom_or_term": ["text", "names"], "read_clause": ["text", "names"],
    },
    "lastproof.formulas.tokens": {"tokens": ["line_text", "line"]},
}


class InterfaceTest(unittest.TestCase):
    def test_each_function_stands_in_its_file_with_its_arguments(self):
        for module_name, functions in FUNCTIONS.items():
            module = importlib.import_module(module_name)
            for name, parameters in functions.items():
                told = getattr(module, name)
                self.assertEqual(told.__module__, module_name, name)
                self.assertEqual(list(inspect.signature(told).parameters), parameters, name)
