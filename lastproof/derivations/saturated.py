"""The judge of saturated sets, and the texts of sets."""

from lastproof.errors import NoClause, NoSet
from lastproof.reasoner.conclusions import Active, alone, into
from lastproof.reasoner.kept import Kept
from lastproof.reasoner.settling import first_part, rules_of, settled_by
from lastproof.simplify.cleaning import always_holds
from lastproof.texts.reading import number_of, read_clause
from lastproof.texts.writing import clause_text


def shows(weights, pairs, clause):
    """Tell whether the set shows the clause."""
    kept = kept_of(pairs)
    return is_shown(rules_of(weights, kept), kept, clause)


def accepts_set(weights, pairs):
    """Tell whether the judge accepts the set."""
    if not all([is_selection(clause, selected) for clause, selected in pairs]):
        return False
    kept = kept_of(pairs)
    rules = rules_of(weights, kept)
    active = [Active(weights, one) for one in kept]
    for one in active:
        concluded = alone(one)
        for other in active:
            concluded.extend(into(one, other))
        if not all([is_shown(rules, kept, clause) for clause, _ in concluded]):
            return False
    return True


def kept_of(pairs):
    """Return the list of the clauses of a set as Kept, with their indexes as numbers."""
    return [Kept(k, clause, selected, ("given", 0, k), []) for k, (clause, selected) in enumerate(pairs)]


def is_selection(clause, selected):
    """Tell whether the clause is not empty, and selected is None or the index of a negated literal of it."""
    if selected is None:
        return bool(clause)
    return 0 <= selected < len(clause) and not clause[selected][0]


def is_shown(rules, kept, clause):
    """Tell whether the clause, settled by the rules, always holds or has one of the clauses as a part."""
    settled, _ = settled_by(rules, clause)
    return always_holds(settled) is not None or first_part(kept, settled) is not None


def set_text(pairs, names):
    """Return the text of a set."""
    return "".join([f"{selection_text(selected)} {clause_text(clause, names)}\n" for clause, selected in pairs])


def selection_text(selected):
    """Return the text of the index of a selected literal or None."""
    return "-" if selected is None else str(selected)


def read_set(text, names):
    """Return the list of the pairs of the set with this text. Raises NoSet if there is none."""
    lines = text.split("\n")
    if lines[-1]:
        raise NoSet("the last line has no end")
    return [read_pair(line, names) for line in lines[:-1]]


def read_pair(line, names):
    """Return the pair of a clause and an index or None with this line. Raises NoSet if there is none."""
    word, _, text = line.partition(" ")
    selected = None if word == "-" else number_of(word)
    if selected is None and word != "-":
        raise NoSet("a line does not begin with an index or -")
    try:
        return (read_clause(text, names), selected)
    except NoClause:
        raise NoSet("a line has no text of a well formed clause") from None
