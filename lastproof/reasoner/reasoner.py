"""The reasoner: it holds clauses, and chooses one after another."""

from lastproof.errors import NoLiteral, NotWaiting, OutOfRange
from lastproof.order.weights import clause_weight, literal_weight
from lastproof.reasoner.conclusions import Active, alone, between
from lastproof.reasoner.kept import Gone, Kept, numbers_used
from lastproof.reasoner.settling import first_part, is_lighter, settled_by
from lastproof.simplify.cleaning import always_holds
from lastproof.simplify.parts import part_by

MOST_CHOICES = 1000
ROUND = 5


class Reasoner:
    """Clauses that wait, that are chosen, and that are gone."""

    def __init__(self, weights, given):
        self.weights = {}
        self.given = {}
        self.next_number = 0
        self.choices = 0
        self.forget_clauses()
        self.turn(weights, given)

    def forget_clauses(self):
        """Hold no clauses from now on."""
        self.waiting = []
        self.chosen = []
        self.gone = []
        # What is worked out once: an Active for each chosen clause, the rules of these clauses, and the weights
        # of the waiting clauses by their numbers.
        self.active = []
        self.rules = []
        self.heaviness = {}

    def choose(self, number, literal):
        """Choose a waiting clause, with the index of a literal or None. Return the list of the new numbers."""
        kept = self.waiting_clause(number)
        if literal is not None and not is_negated(kept.clause, literal):
            raise NoLiteral(literal)
        first_new = self.next_number
        self.choices += 1
        self.waiting = [other for other in self.waiting if other.number != number]
        clause, changes = settled_by(self.rules, kept.clause)
        reason = self.reason_to_go(clause)
        if reason is None:
            self.admit(kept, clause, changes, literal)
        else:
            self.gone.append(Gone(kept, changes, reason))
        if not self.waiting:
            self.take_all_again()
        return list(range(first_new, self.next_number))

    def waiting_clause(self, number):
        """Return the waiting clause with the number. Raises NotWaiting if there is none."""
        for kept in self.waiting:
            if kept.number == number:
                return kept
        raise NotWaiting(number)

    def reason_to_go(self, clause):
        """Return the reason why a settled clause is not chosen, or None."""
        indexes = always_holds(clause)
        if indexes is not None:
            return ("holds",) + indexes
        part = first_part(self.chosen, clause)
        return None if part is None else ("part",) + part

    def admit(self, kept, clause, changes, literal):
        """Let the settled clause be chosen, and take what comes of it."""
        selected = literal if literal is not None and is_negated(clause, literal) else None
        if changes:
            self.gone.append(Gone(kept, changes, ("became", self.next_number)))
            new = Kept(self.numbered(), clause, selected, ("copied", kept.number), changes)
        else:
            new = Kept(kept.number, clause, selected, kept.made, kept.changes)
        active = Active(self.weights, new)
        rewritten = self.look_back(active)
        for number, change in rewritten:
            self.take(change[2].clause, ("copied", number), [change])
        self.take_concluded(alone(active))
        self.take_concluded(between(active, self.active))

    def look_back(self, new):
        """Let the chosen clauses go that the new one makes needless. Return the (number, change) of the rewritten."""
        rewritten = []
        stayed = []
        for active in self.active:
            gone = gone_by(new, active)
            if gone is None:
                stayed.append(active)
            else:
                self.gone.append(gone)
                rewritten.extend([(active.kept.number, change) for change in gone.changes])
        stayed.append(new)
        self.active = stayed
        self.chosen = [one.kept for one in stayed]
        self.rules = [rule for one in stayed for rule in one.rules]
        return rewritten

    def take_all_again(self):
        """Take the given clauses and all conclusions from the chosen clauses once more."""
        self.take_given()
        for k, active in enumerate(self.active):
            self.take_concluded(alone(active))
            # The superpositions with the clauses before were taken with those: nothing would be kept of them now.
            self.take_concluded(between(active, self.active[k:]))

    def take_given(self):
        """Take all given clauses, axiom by axiom."""
        for axiom in self.given:
            for index, clause in enumerate(self.given[axiom]):
                self.take(clause, ("given", axiom, index), [])

    def take_concluded(self, pairs):
        """Take new clauses, given as pairs of a clause and what made it."""
        for clause, made in pairs:
            self.take(clause, made, [])

    def take(self, clause, made, changes):
        """Settle a new clause, which had these changes before, and let it wait unless it is needless."""
        settled, further = settled_by(self.rules, clause)
        if always_holds(settled) is None and first_part(self.chosen + self.waiting, settled) is None:
            self.let_wait(Kept(self.numbered(), settled, None, made, changes + further))

    def let_wait(self, kept):
        """Add a waiting clause."""
        self.waiting.append(kept)
        self.heaviness[kept.number] = clause_weight(self.weights, kept.clause)

    def numbered(self):
        """Return the next number, which is used then."""
        self.next_number += 1
        return self.next_number - 1

    def suggestion(self):
        """Return the pair of the number of a waiting clause and the index of a literal or None, or None."""
        if not self.waiting:
            return None
        if self.choices % ROUND == ROUND - 1:
            kept = self.waiting[0]
        else:
            kept = min(self.waiting, key=lambda one: self.heaviness[one.number])
        return (kept.number, heaviest_negated(self.weights, kept.clause))

    def run(self, count):
        """Choose what is suggested, so many times or until the status is not "open". Return the status."""
        if not 0 <= count <= MOST_CHOICES:
            raise OutOfRange("count")
        for _ in range(count):
            if self.status() != "open":
                break
            number, literal = self.suggestion()
            self.choose(number, literal)
        return self.status()

    def status(self):
        """Return "refuted", "saturated" or "open"."""
        if any([not kept.clause for kept in self.waiting + self.chosen]):
            return "refuted"
        return "open" if self.waiting else "saturated"

    def turn(self, weights, given):
        """Keep what rests on the axioms that are given, let it wait, and take what is given."""
        self.weights = {symbol: weights[symbol] for symbol in weights}
        self.given = {axiom: list(given[axiom]) for axiom in given}
        left = resting_on(self.everything(), self.given)
        self.forget_clauses()
        for kept in left:
            self.let_wait(Kept(kept.number, kept.clause, None, kept.made, kept.changes))
        self.take_given()

    def find(self, number):
        """Return the Kept with the number, or None."""
        for kept in self.everything():
            if kept.number == number:
                return kept
        return None

    def everything(self):
        """Return the list of all Kept, waiting, chosen and gone, by their numbers."""
        found = self.waiting + self.chosen + [gone.kept for gone in self.gone]
        return sorted(found, key=lambda kept: kept.number)


def is_negated(clause, k):
    """Tell whether the clause has a negated literal with the index k."""
    return 0 <= k < len(clause) and not clause[k][0]


def gone_by(new, active):
    """Return the Gone of an active clause that goes because of a new one, or None if it stays."""
    kept = active.kept
    clause = new.kept.clause
    part = part_by(new.kept.profile, kept.profile)
    if part is not None:
        return Gone(kept, [], ("part", new.kept.number) + part) if is_lighter(clause, kept.clause) else None
    for number, rule in new.rules:
        rewriting = rule.rewriting(active.spots)
        if rewriting is not None:
            return Gone(kept, [("rewritten", number, rewriting)], ("again",))
    return None


def heaviest_negated(weights, clause):
    """Return the index of the first negated literal of the greatest weight, or None."""
    negated = [k for k, literal in enumerate(clause) if not literal[0]]
    return max(negated, key=lambda k: literal_weight(weights, clause[k]), default=None)


def resting_on(everything, given):
    """Return the list of the clauses that rest only on given axioms, where everything is listed by numbers."""
    left = {}
    for kept in everything:
        # A clause uses only clauses of smaller numbers, which have been looked at before.
        may_stay = kept.made[0] != "given" or kept.made[1] in given
        if may_stay and all([number in left for number in numbers_used(kept)]):
            left[kept.number] = kept
    return list(left.values())
