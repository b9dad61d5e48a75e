"""Clauses with their histories."""

from lastproof.simplify.profiles import Profile


class Kept:
    """A clause with its number, the index of its selected literal or None, what made it, and its changes."""

    def __init__(self, number, clause, selected, made, changes):
        self.number = number
        self.clause = clause
        self.selected = selected
        self.made = made
        self.changes = [copied(change) for change in changes]
        self.profile = Profile(clause)


class Gone:
    """A clause that is gone: the Kept as it was, the changes before it went, and the reason."""

    def __init__(self, kept, changes, reason):
        self.kept = kept
        self.changes = [copied(change) for change in changes]
        self.reason = copied(reason)


def copied(record):
    """Return the tuple with copies of the dicts in it."""
    return tuple([dict(part) if isinstance(part, dict) else part for part in record])


def numbers_used(kept):
    """Return the list of the numbers of the clauses that made or rewrote the clause."""
    found = [change[1] for change in kept.changes if change[0] == "rewritten"]
    if kept.made[0] == "superposed":
        return list(kept.made[1:3]) + found
    return found if kept.made[0] == "given" else [kept.made[1]] + found
