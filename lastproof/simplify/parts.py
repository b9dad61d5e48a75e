"""Clauses that are parts of clauses."""

from lastproof.simplify.profiles import Profile
from lastproof.unify.matching import fits


def part_of(c, d):
    """Return the substitution and the indexes in d with which c is a part of d, or None."""
    return part_by(Profile(c), Profile(d))


def part_by(c, d):
    """Return the same for the profiles of two clauses."""
    if not c.may_be_part_of(d):
        return None
    return Fitting(c, d).first_way()


class Fitting:
    """The literals of c that have taken literals of d so far, the first ones, and what is left to try."""

    def __init__(self, c, d):
        self.literals = c.clause
        self.binders = c.binders
        self.choices = [d.ways[one] for one in c.needed]
        # For each literal that has taken one, its index in d. Then, for these literals and the next one, what the
        # variables were before, how many choices were tried, and the earlier literals because of which some failed.
        self.indexes = []
        self.told = [{}]
        self.tried = [0]
        self.blocked = [{}]

    def first_way(self):
        """Return the first substitution and indexes, or None."""
        while len(self.indexes) < len(self.literals):
            k = len(self.indexes)
            if not self.advance(k):
                if not self.blocked[k]:
                    return None
                self.go_back(max(self.blocked[k]))
        return (self.told[-1], tuple(self.indexes))

    def advance(self, k):
        """Let the literal take its next choice that fits. Tell whether there is one."""
        choices = self.choices[k]
        for number in range(self.tried[k], len(choices)):
            index, left, right = choices[number]
            if index in self.indexes:
                self.blocked[k][self.indexes.index(index)] = True
            else:
                found = dict(self.told[k])
                if fits(self.literals[k][1], left, found) and fits(self.literals[k][2], right, found):
                    self.tried[k] = number + 1
                    self.add_taken(index, found)
                    return True
                for binder in self.binders[k]:
                    self.blocked[k][binder] = True
        return False

    def add_taken(self, index, found):
        """Add what a literal has taken."""
        self.indexes.append(index)
        self.told.append(found)
        self.tried.append(0)
        self.blocked.append({})

    # When no choice is left, another choice of a literal helps only if some failed because of it. So the literals
    # behind the last one of these need not be tried again; this leaves out no way.

    def go_back(self, k):
        """Go back to this literal, because of which the one that comes next has no choice left."""
        for blocking in list(self.blocked[-1]):
            if blocking != k:
                self.blocked[k][blocking] = True
        del self.indexes[k:]
        del self.told[k + 1:]
        del self.tried[k + 1:]
        del self.blocked[k + 1:]
