"""The texts of symbols, terms, literals and clauses."""

from lastproof.terms.symbols import ANSWER_KIND, PART_KIND, SKOLEM_KIND, TRUTH, TRUTH_KIND
from lastproof.terms.terms import is_atomic, is_variable


def symbol_text(symbol, names):
    """Return the word of the symbol."""
    kind, a, k = symbol
    if kind == TRUTH_KIND:
        return "#"
    if kind == SKOLEM_KIND:
        return f"${a}_{k}"
    if kind == PART_KIND:
        return f"&{a}_{k}"
    if kind == ANSWER_KIND:
        return f"@{a}"
    return names[a][1]


def term_text(term, names):
    """Return the text of the term."""
    if is_variable(term):
        return f"?{term}"
    word = symbol_text(term[0], names)
    if not term[1]:
        return word
    inside = ", ".join([term_text(argument, names) for argument in term[1]])
    return f"{word}({inside})"


def literal_text(literal, names):
    """Return the text of the literal."""
    positive, left, right = literal
    text = term_text(left, names)
    if right == TRUTH and is_atomic(left):
        return text if positive else f"not {text}"
    sign = "=" if positive else "!="
    return f"{text} {sign} {term_text(right, names)}"


def clause_text(clause, names):
    """Return the text of the clause."""
    if not clause:
        return "[]"
    return " or ".join([literal_text(literal, names) for literal in clause])
