"""A plain restatement of the reasoner, which keeps tuples and tries everything."""

from lastproof.order.weights import clause_weight, literal_weight
from lastproof.terms.literals import clause_size, clause_variables
from tests.plain_conclusions import (
    as_tuples, naive_always, naive_factorings, naive_part_of, naive_resolutions, naive_rewrite, naive_settle,
    naive_superpositions,
)


def is_negated(clause, k):
    return k is not None and 0 <= k < len(clause) and not clause[k][0]


def lighter(clause, other):
    def key(one):
        return (len(one), clause_size(one), -len(clause_variables(one)))
    return key(clause) < key(other)


class PlainReasoner:
    """Rows are lists [number, clause, selected, made, changes]; gone ones are (row, changes, reason)."""

    def __init__(self, weights, given):
        self.next_number, self.choices = 0, 0
        self.waiting, self.chosen, self.gone = [], [], []
        self.turn(weights, given)

    def turn(self, weights, given):
        rows = sorted(self.waiting + self.chosen + [row for row, _, _ in self.gone])
        self.weights, self.given = weights, given
        self.chosen, self.gone = [], []
        self.waiting = [(n, c, None, m, ch) for n, c, _, m, ch in rows if self.rests(n, rows) <= set(given)]
        self.take_given()

    def rests(self, number, rows):
        """All axioms on which a clause rests."""
        row = [row for row in rows if row[0] == number][0]
        made = row[3]
        if made[0] == "given":
            found = {made[1]}
        elif made[0] == "superposed":
            found = self.rests(made[1], rows) | self.rests(made[2], rows)
        else:
            found = self.rests(made[1], rows)
        for change in row[4]:
            if change[0] == "rewritten":
                found |= self.rests(change[1], rows)
        return found

    def settle(self, clause):
        return naive_settle(self.weights, [row[:2] for row in self.chosen], clause)

    def first_part(self, rows, clause):
        for row in rows:
            found = naive_part_of(row[1], clause)
            if found is not None:
                return (row[0],) + found
        return None

    def take(self, clause, made, changes=()):
        settled, further = self.settle(clause)
        if naive_always(settled) is None and self.first_part(self.chosen + self.waiting, settled) is None:
            self.waiting.append((self.next_number, settled, None, made, list(changes) + further))
            self.next_number += 1

    def take_given(self):
        for axiom in self.given:
            for k, clause in enumerate(self.given[axiom]):
                self.take(clause, ("given", axiom, k))

    def take_alone(self, row):
        for kind, found in (("resolved", naive_resolutions), ("factored", naive_factorings)):
            for e in found(self.weights, row[1], row[2]):
                self.take(e[1], (kind, row[0], e))

    def take_pairs(self, row):
        for other in list(self.chosen):
            for e in naive_superpositions(self.weights, row[1], row[2], other[1], other[2]):
                self.take(e[1], ("superposed", row[0], other[0], e))
            if other[0] != row[0]:
                for e in naive_superpositions(self.weights, other[1], other[2], row[1], row[2]):
                    self.take(e[1], ("superposed", other[0], row[0], e))

    def choose(self, number, literal):
        row = [row for row in self.waiting if row[0] == number][0]
        before = self.next_number
        self.choices += 1
        self.waiting.remove(row)
        clause, changes = self.settle(row[1])
        always = naive_always(clause)
        part = self.first_part(self.chosen, clause)
        if always is not None:
            self.gone.append((row, changes, ("holds",) + always))
        elif part is not None:
            self.gone.append((row, changes, ("part",) + part))
        else:
            self.admit(row, clause, changes, literal if is_negated(clause, literal) else None)
        if not self.waiting:
            self.take_given()
            for one in self.chosen:
                self.take_alone(one)
                self.take_pairs(one)
        return [n for n in range(before, self.next_number)
                if n in [one[0] for one in self.waiting + self.chosen]]

    def admit(self, row, clause, changes, selected):
        if changes:
            self.gone.append((row, changes, ("became", self.next_number)))
            new = (self.next_number, clause, selected, ("copied", row[0]), changes)
            self.next_number += 1
        else:
            new = (row[0], clause, selected) + row[3:]
        stayed, rewritten = [], []
        for old in self.chosen:
            part = naive_part_of(new[1], old[1])
            rewriting = naive_rewrite(self.weights, new[1][0], old[1]) if len(new[1]) == 1 else None
            if part is not None and lighter(new[1], old[1]):
                self.gone.append((old, [], ("part", new[0]) + part))
            elif part is None and rewriting is not None:
                change = ("rewritten", new[0], rewriting)
                self.gone.append((old, [change], ("again",)))
                rewritten.append((old[0], change))
            else:
                stayed.append(old)
        self.chosen = stayed + [new]
        for old_number, change in rewritten:
            self.take(change[2][0], ("copied", old_number), [change])
        self.take_alone(new)
        self.take_pairs(new)

    def suggestion(self):
        if not self.waiting:
            return None
        row = self.waiting[0]
        if self.choices % 5 != 4:
            least = min(clause_weight(self.weights, one[1]) for one in self.waiting)
            row = [one for one in self.waiting if clause_weight(self.weights, one[1]) == least][0]
        negated = [(literal_weight(self.weights, one), k) for k, one in enumerate(row[1]) if not one[0]]
        greatest = max([weight for weight, _ in negated], default=None)
        return row[0], next((k for weight, k in negated if weight == greatest), None)

    def status(self):
        if any(row[1] == () for row in self.waiting + self.chosen):
            return "refuted"
        return "open" if self.waiting else "saturated"


def change_tuple(change):
    if change[0] == "renumbered":
        return ("renumbered", list(change[1].items()))
    if change[0] == "rewritten":
        r = change[2]
        return ("rewritten", change[1],
                (r.clause, r.literal, r.side, r.place, r.equation_side, list(r.substitution.items())))
    return change


def kept_tuple(kept):
    made = kept.made
    if made[0] in ("superposed", "resolved", "factored"):
        made = made[:-1] + tuple(as_tuples(made[-1:]))
    return (kept.number, kept.clause, kept.selected, made, [change_tuple(change) for change in kept.changes])


def gone_tuple(gone):
    reason = gone.reason
    if reason[0] == "part":
        reason = ("part", reason[1], list(reason[2].items()), reason[3])
    return (kept_tuple(gone.kept), [change_tuple(change) for change in gone.changes], reason)


def state_of(reasoner):
    """What a reasoner holds, in the form of the plain one."""
    return ([kept_tuple(kept) for kept in reasoner.waiting], [kept_tuple(kept) for kept in reasoner.chosen],
            [gone_tuple(gone) for gone in reasoner.gone], reasoner.next_number, reasoner.choices)


def plain_state(plain):
    return (plain.waiting, plain.chosen, plain.gone, plain.next_number, plain.choices)
