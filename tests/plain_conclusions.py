"""Plain restatements of the conclusions and of simplification, without any short cut, as tuples."""

import itertools

from lastproof.order.multisets import clause_greater, is_greatest, is_greatest_alone
from lastproof.order.ordering import compare, greater
from lastproof.terms.literals import clause_variables
from lastproof.terms.places import places, put_at
from lastproof.terms.substitutions import put, put_clause, shifted_clause
from lastproof.terms.terms import is_atom, variables
from lastproof.unify.matching import match
from lastproof.unify.unifying import unify
from tests.samples import A, B, TRUTH, f, g, p, q


def naive_conditions(weights, clause, selected, k, s, substitution):
    """Whether the literal may act, whether it may give, and whether its side may lead."""
    instance = put_clause(clause, substitution)
    acts = selected == k or selected is None and is_greatest(weights, instance, k)
    gives = instance[k][0] and selected is None and is_greatest_alone(weights, instance, k)
    order = compare(weights, instance[k][1 + s], instance[k][2 - s])
    return acts, gives, order in ("greater", None)


def numbered(clause, first, second):
    """The clause and the pairs of the two dicts in new numbers."""
    order = clause_variables(clause)
    for term in list(first.values()) + list(second.values()):
        order += [v for v in variables(term) if v not in order]
    new = {v: n for n, v in enumerate(order)}
    return (put_clause(clause, new), [(v, put(term, new)) for v, term in first.items()],
            [(v, put(term, new)) for v, term in second.items()])


def naive_superpositions(weights, c, selected_c, d, selected_d):
    found = []
    amount = 1000
    own = shifted_clause(d, amount)
    for k, s in itertools.product(range(len(c)), (0, 1)):
        for place, u in places(c[k][1 + s]):
            for by, by_side in itertools.product(range(len(d)), (0, 1)):
                leading, other = own[by][1 + by_side], own[by][2 - by_side]
                if isinstance(u, int) or not own[by][0] or is_atom(u) != is_atom(leading):
                    continue
                substitution = unify([(u, leading)])
                if substitution is None:
                    continue
                acts, _, leads = naive_conditions(weights, c, selected_c, k, s, substitution)
                _, gives, other_leads = naive_conditions(weights, own, selected_d, by, by_side, substitution)
                if not (acts and leads and gives and other_leads):
                    continue
                sides = list(c[k][1:])
                sides[s] = put_at(sides[s], place, other)
                literals = list(c)
                literals[k] = (c[k][0],) + tuple(sides)
                clause = put_clause(tuple(literals) + own[:by] + own[by + 1:], substitution)
                first = {v: put(v, substitution) for v in clause_variables(c)}
                second = {v: put(v + amount, substitution) for v in clause_variables(d)}
                clause, first, second = numbered(clause, first, second)
                found.append(("superposition", clause, k, s, place, by, by_side, first, second))
    return found


def naive_resolutions(weights, c, selected):
    found = []
    for k, (positive, left, right) in enumerate(c):
        substitution = None if positive else unify([(left, right)])
        if substitution is not None and naive_conditions(weights, c, selected, k, 0, substitution)[0]:
            first = {v: put(v, substitution) for v in clause_variables(c)}
            clause, first, _ = numbered(put_clause(c[:k] + c[k + 1:], substitution), first, {})
            found.append(("resolution", clause, k, None, None, None, None, first, []))
    return found


def naive_factorings(weights, c, selected):
    found = []
    for i, side, j, other_side in itertools.product(range(len(c)), (0, 1), range(len(c)), (0, 1)):
        if selected is not None or i == j or not c[i][0] or not c[j][0]:
            continue
        s, t, u, v = c[i][1 + side], c[i][2 - side], c[j][1 + other_side], c[j][2 - other_side]
        substitution = unify([(s, u)]) if is_atom(s) == is_atom(u) else None
        if substitution is None:
            continue
        instance = put_clause(c, substitution)
        order = compare(weights, instance[i][1 + side], instance[i][2 - side])
        if is_greatest(weights, instance, i) and order in ("greater", None):
            first = {x: put(x, substitution) for x in clause_variables(c)}
            clause = put_clause(c[:i] + ((False, t, v),) + c[i + 1:], substitution)
            clause, first, _ = numbered(clause, first, {})
            found.append(("factoring", clause, i, side, None, j, other_side, first, []))
    return found


def as_tuples(conclusions):
    return [(e.kind, e.clause, e.literal, e.side, e.place, e.other_literal, e.other_side, list(e.first.items()),
             list(e.second.items())) for e in conclusions]


def naive_part_of(c, d):
    """The first way, by trying all ways in their order; the substitution as a list of pairs."""
    def ways(k, told, used):
        if k == len(c):
            yield list(told.items()), used
            return
        for j, literal in enumerate(d):
            atoms = [any(is_atom(side) for side in one[1:]) for one in (c[k], literal)]
            if j in used or literal[0] != c[k][0] or atoms[0] != atoms[1]:
                continue
            for left, right in (literal[1:], literal[:0:-1]):
                found = match(c[k][1], left, told)
                found = None if found is None else match(c[k][2], right, found)
                if found is not None:
                    yield from ways(k + 1, found, used + (j,))

    return next(ways(0, {}, ()), None) if len(c) <= len(d) else None


def naive_rewrite(weights, equation, clause):
    """The first rewriting: (clause, literal, side, place, side of the equation, pairs of the substitution)."""
    for k, s in itertools.product(range(len(clause)), (0, 1)):
        for place, u in places(clause[k][1 + s]):
            for by_side in (0, 1):
                pattern, other = equation[1 + by_side], equation[2 - by_side]
                told = match(pattern, u, {}) if equation[0] and is_atom(u) == is_atom(pattern) else None
                if told is None:
                    continue
                e = put(other, told)
                if greater(weights, u, e) and clause_greater(weights, clause, ((True, u, e),)):
                    sides = list(clause[k][1:])
                    sides[s] = put_at(sides[s], place, e)
                    changed = clause[:k] + ((clause[k][0],) + tuple(sides),) + clause[k + 1:]
                    return changed, k, s, place, by_side, list(told.items())
    return None


def is_same(first, second):
    return first[0] == second[0] and (first[1:] == second[1:] or first[1:] == second[:0:-1])


def naive_cleaned(clause):
    kept = []
    for k, literal in enumerate(clause):
        never = not literal[0] and literal[1] == literal[2]
        if not never and not any(is_same(literal, later) for later in clause[k + 1:]):
            kept.append(literal)
    return tuple(kept)


def naive_always(clause):
    for i in range(len(clause)):
        for j in range(len(clause)):
            one, two = clause[i], clause[j]
            if i == j and one[0] and one[1] == one[2]:
                return (i, j)
            if one[0] != two[0] and set(one[1:]) == set(two[1:]):
                return (i, j)
    return None


def naive_settle(weights, chosen, clause):
    """The settled clause and the changes, by pairs (number, clause)."""
    changes = []
    while True:
        clean = naive_cleaned(clause)
        if clean != clause:
            changes.append(("cleaned",))
        for number, one in chosen:
            found = naive_rewrite(weights, one[0], clean) if len(one) == 1 else None
            if found is not None:
                break
        else:
            break
        changes.append(("rewritten", number, found))
        clause = found[0]
    order = clause_variables(clean)
    if order != list(range(len(order))):
        changes.append(("renumbered", [(v, n) for n, v in enumerate(order)]))
    return put_clause(clean, {v: n for n, v in enumerate(order)}), changes


def small_term(source, depth):
    if depth == 0 or source.random() < 0.3:
        return source.choice([0, 1, 2, A, B])
    return source.choice([f, f, g])(*[small_term(source, depth - 1) for _ in range(source.choice([1, 1, 1, 2]))])


def small_clause(source, most=3, positive=0.65, depth=2):
    """A clause of few symbols, so that many terms can be unified."""
    literals = []
    for _ in range(source.choice([1, 1, 2, 2, 3][:2 * most - 1])):
        sign = source.random() < positive
        if source.random() < 0.4:
            literals.append((sign, source.choice([p, p, q])(small_term(source, depth)), TRUTH))
        else:
            literals.append((sign, small_term(source, depth), small_term(source, depth)))
    return tuple(literals)
