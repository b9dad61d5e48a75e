"""The errors that the program raises."""


class LastproofError(ValueError):
    """The base class of all errors of the program."""


class TextFault(LastproofError):
    """A text is not a problem or not an edit."""

    def __init__(self, line, column, expected):
        super().__init__(f"line {line}, column {column}: {expected} expected")
        self.line = line
        self.column = column
        self.expected = expected


class NoTerm(LastproofError):
    """A text is not the text of a term."""


class NoClause(LastproofError):
    """A text is not the text of a clause."""


class NoDerivation(LastproofError):
    """A text is not the text of a derivation."""


class NoSet(LastproofError):
    """A text is not the text of a set of clauses."""


class NoWorld(LastproofError):
    """A text is not the text of a world."""


class NotWaiting(LastproofError):
    """No clause with this number waits."""

    def __init__(self, number):
        super().__init__(f"no clause with the number {number} waits")
        self.number = number


class NoLiteral(LastproofError):
    """The clause has no negated literal with this index."""

    def __init__(self, literal):
        super().__init__(f"no negated literal has the index {literal}")
        self.literal = literal


class UnknownClause(LastproofError):
    """No clause has this number."""

    def __init__(self, number):
        super().__init__(f"no clause has the number {number}")
        self.number = number


class OutOfRange(LastproofError):
    """An argument is not in its range."""

    def __init__(self, name):
        super().__init__(f"{name} is out of range")
        self.name = name
