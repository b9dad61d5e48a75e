"""The order of terms, a Knuth-Bendix order."""

from lastproof.order.weights import symbol_weight
from lastproof.terms.symbols import comes_before
from lastproof.terms.terms import is_variable, subterms


class Balance:
    """What one term has more than another: the weight, and how often each variable occurs."""

    def __init__(self, weights, first, second):
        self.weights = weights
        self.lead = 0
        self.counts = {}
        self.tally(first, 1)
        self.tally(second, -1)

    def tally(self, term, times):
        """Count what is in the term so many times."""
        for here in subterms(term):
            if is_variable(here):
                self.lead += times
                self.counts[here] = self.counts.get(here, 0) + times
            else:
                self.lead += times * symbol_weight(self.weights, here[0])

    def covers(self):
        """Tell whether no variable occurs more often in the second term."""
        return min(self.counts.values(), default=0) >= 0


def greater(weights, first, second):
    """Tell whether the term first is greater than the term second."""
    if is_variable(first):
        return False
    balance = Balance(weights, first, second)
    # The second term is a compound in the loop: a constant of the weight of a variable does not cover it.
    while balance.lead == 0 and balance.covers():
        if not first[1] or not second[1]:
            return is_greater_constant(first, second)
        last, other_last = first[1][-1], second[1][-1]
        first, second = head(first), head(second)
        if first == second:
            return greater(weights, last, other_last)
        balance.tally(last, -1)
        balance.tally(other_last, 1)
    return balance.lead > 0 and balance.covers()


def is_greater_constant(first, second):
    """Tell whether first is greater, for two compounds of equal weight of which one has no arguments."""
    if second[1]:
        return False
    return bool(first[1]) or comes_before(second[0], first[0])


def head(term):
    """Return the compound without its last argument."""
    return (term[0], term[1][:-1])


def compare(weights, first, second):
    """Return "same", "greater", "less" or None."""
    if first == second:
        return "same"
    if greater(weights, first, second):
        return "greater"
    if greater(weights, second, first):
        return "less"
    return None
