"""Searching for the least choice of values that satisfies propositional clauses.

A literal is an integer that is not 0; its opposite is the negative of it. A clause is a list of literals. A cell is
a list of literals of which exactly one holds: the first one for its least value, and so on.
"""


class Solver:
    """What the literals are so far, decided cell by cell, and the clauses that were given or learned."""

    # The cells are decided in their order, each for the least value that is left. Everything else that is assigned
    # follows from earlier decisions. So the first assignment of all cells is the least one that there is.

    def __init__(self, many, clauses, cells):
        # The lists for literals have one index for 0 and one for each literal, where negative indexes count from
        # the end. 1 stands for a literal that holds, -1 for one that does not, and 0 for one that is not assigned.
        self.states = [0] * (2 * many + 1)
        self.watching = [[] for _ in range(2 * many + 1)]
        self.levels = [0] * (many + 1)
        self.reasons = [None] * (many + 1)
        self.trail = []
        self.followed = 0
        self.starts = []
        self.decided_cells = []
        self.cells = cells
        self.cell = 0
        self.units = [clause for clause in clauses if len(clause) < 2]
        for clause in clauses:
            if len(clause) > 1:
                self.watch(list(clause))

    def watch(self, clause):
        """Look at the clause whenever one of its first two literals no longer may hold."""
        self.watching[clause[0]].append(clause)
        self.watching[clause[1]].append(clause)

    def solve(self):
        """Assign all cells, with the least values. Tell whether this can be done."""
        for unit in self.units:
            if not unit or self.states[unit[0]] < 0:
                return False
            self.assign(unit[0], None)
        while True:
            conflict = self.follow()
            if conflict is not None:
                if not self.starts:
                    return False
                self.learn(self.reason_of(conflict))
            else:
                literal = self.next_decision()
                if literal is None:
                    return True
                self.starts.append(len(self.trail))
                self.decided_cells.append(self.cell)
                self.assign(literal, None)

    def assign(self, literal, reason):
        """Let the literal hold, because of a clause in which no other literal may hold, or None."""
        if self.states[literal] == 0:
            self.states[literal] = 1
            self.states[-literal] = -1
            self.levels[abs(literal)] = len(self.starts)
            self.reasons[abs(literal)] = reason
            self.trail.append(literal)

    def follow(self):
        """Assign what follows from what is assigned. Return a clause in which no literal may hold, or None."""
        while self.followed < len(self.trail):
            conflict = self.leave(-self.trail[self.followed])
            self.followed += 1
            if conflict is not None:
                return conflict
        return None

    def leave(self, literal):
        """Let the clauses that are watched by a literal find another one. Return a clause that has none, or None."""
        stayed = []
        conflict = None
        for clause in list(self.watching[literal]):
            if conflict is not None or not self.moved(clause, literal):
                stayed.append(clause)
                if conflict is None and self.states[clause[0]] < 0:
                    conflict = clause
                elif conflict is None:
                    self.assign(clause[0], clause)
        self.watching[literal] = stayed
        return conflict

    def moved(self, clause, literal):
        """Tell whether another literal than this one watches the clause from now on, which then comes second."""
        if clause[0] == literal:
            clause[0], clause[1] = clause[1], literal
        states = self.states
        if states[clause[0]] > 0:
            return False
        for k in range(2, len(clause)):
            if states[clause[k]] >= 0:
                clause[1], clause[k] = clause[k], literal
                self.watching[clause[1]].append(clause)
                return True
        return False

    def next_decision(self):
        """Return the literal for the least value of the first cell that is not assigned, or None."""
        while self.cell < len(self.cells):
            literals = self.cells[self.cell]
            if not any([self.states[literal] > 0 for literal in literals]):
                return [literal for literal in literals if self.states[literal] == 0][0]
            self.cell += 1
        return None

    def value_of(self, cell):
        """Return the index of the literal of the cell that holds."""
        return [k for k, literal in enumerate(cell) if self.states[literal] > 0][0]

    def reason_of(self, conflict):
        """Return a clause that holds, with its first literal alone assigned since the last decision."""
        seen = {}
        earlier = []
        left = 0
        clause = conflict
        position = len(self.trail)
        while True:
            for literal in clause:
                if abs(literal) not in seen and self.levels[abs(literal)] > 0:
                    seen[abs(literal)] = True
                    if self.levels[abs(literal)] == len(self.starts):
                        left += 1
                    else:
                        earlier.append(literal)
            position -= 1
            while abs(self.trail[position]) not in seen:
                position -= 1
            left -= 1
            if left == 0:
                return [-self.trail[position]] + earlier
            clause = self.reasons[abs(self.trail[position])]

    def learn(self, clause):
        """Add a clause of the form above, and go back to where it makes its first literal hold."""
        level = 0
        for k in range(1, len(clause)):
            if self.levels[abs(clause[k])] > level:
                level = self.levels[abs(clause[k])]
                clause[1], clause[k] = clause[k], clause[1]
        self.go_back(level)
        if len(clause) > 1:
            self.watch(clause)
        self.assign(clause[0], clause)

    def go_back(self, level):
        """Take back all decisions behind this level, and what followed from them."""
        for literal in self.trail[self.starts[level]:]:
            self.states[literal] = 0
            self.states[-literal] = 0
        del self.trail[self.starts[level]:]
        self.cell = self.decided_cells[level]
        del self.starts[level:]
        del self.decided_cells[level:]
        self.followed = len(self.trail)
