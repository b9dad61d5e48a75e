"""Parsing formulas."""

from lastproof.formulas.cursor import Cursor, refuse
from lastproof.formulas.formulas import quantified
from lastproof.terms.symbols import function, predicate
from lastproof.terms.terms import is_variable

MOST_TOKENS = 200
MOST_PARENTHESES = 40
MOST_NESTING_WORDS = 60

# What may join further parts, and how this is told, by the word that joins the parts so far.
JOINING = {"": ("and", "or", "implies", "iff"), "and": ("and",), "or": ("or",), "implies": (), "iff": ()}
JOINING_TEXTS = {"": "and, or, implies, iff or ", "and": "and or ", "or": "or or ", "implies": "", "iff": ""}


def parse_formula(items, end, names):
    """Return the formula of the tokens and the new table of names. Raises TextFault if there is none."""
    if has_much_nesting(items):
        refuse(items[0], "less nesting")
    parser = Parser(Cursor(items, end), names)
    formula = parser.take_formula("the end")
    return (formula, parser.names)


def has_much_nesting(items):
    """Tell whether there are too many parentheses in each other, words that nest, or tokens."""
    words = [item[1] for item in items]
    nesting = [word for word in words if word in ("not", "all", "some")]
    return len(words) > MOST_TOKENS or len(nesting) > MOST_NESTING_WORDS or most_opened(words) > MOST_PARENTHESES


def most_opened(words):
    """Return the greatest number of parentheses that are open at a word."""
    opened = 0
    most = 0
    for word in words:
        if word == "(":
            opened += 1
        elif word == ")" and opened > 0:
            opened -= 1
        most = max(most, opened)
    return most


class Parser:
    """What is left of the tokens, the table of names, and the names that are bound here."""

    def __init__(self, cursor, names):
        self.cursor = cursor
        self.names = list(names)
        self.known = {(is_predicate, name): n for n, (is_predicate, name) in enumerate(names)}
        self.bound = []
        self.variables_made = 0

    def take_formula(self, closing):
        """Return the formula that ends where the closing stands, which is ")" or "the end"."""
        if self.cursor.word() in ("all", "some"):
            return self.take_quantified(closing)
        formula = self.take_part()
        joined = ""
        while self.cursor.word() in JOINING[joined]:
            joined = self.cursor.take()[1]
            formula = (joined, formula, self.take_part())
        ends = self.cursor.word() == ")" if closing == ")" else self.cursor.at_end()
        self.cursor.need(ends, JOINING_TEXTS[joined] + closing)
        return formula

    def take_quantified(self, closing):
        """Return the formula that begins with a quantifier here."""
        word = self.cursor.take()[1]
        outside = self.bound
        bound = self.take_bound()
        self.bound = bound[::-1] + outside
        formula = self.take_formula(closing)
        self.bound = outside
        return quantified(word, [variable for _, variable in bound], formula)

    def take_bound(self):
        """Return the list of the pairs (name, variable) of a quantifier, and take its point."""
        bound = []
        expected = "a name"
        while not bound or self.cursor.word() != ".":
            name = self.cursor.take_name(expected)[1]
            bound.append((name, self.variables_made))
            self.variables_made += 1
            expected = "a name or ."
        self.cursor.take()
        return bound

    def take_part(self):
        """Return the part that begins here."""
        if self.cursor.word() == "not":
            self.cursor.take()
            return ("not", self.take_part())
        if self.cursor.word() == "(":
            self.cursor.take()
            formula = self.take_formula(")")
            self.cursor.take()
            return formula
        self.cursor.need(self.cursor.is_name(), "a formula")
        return self.take_basic_part()

    def take_basic_part(self):
        """Return the atom or the equality that begins here, or the negation of an equality."""
        left = self.take_term()
        sign = self.cursor.word()
        if sign not in ("=", "!="):
            self.cursor.need(not is_variable(left), "= or !=")
            return ("atom", self.with_symbols(left, True))
        self.cursor.take()
        right = self.take_term()
        equality = ("equal", self.with_symbols(left, False), self.with_symbols(right, False))
        return equality if sign == "=" else ("not", equality)

    def take_term(self):
        """Return the term that begins here, with names in the place of symbols."""
        name = self.cursor.take_name("a term")[1]
        for bound_name, variable in self.bound:
            if bound_name == name:
                return variable
        if self.cursor.word() != "(":
            return (name, ())
        return (name, self.take_arguments())

    def take_arguments(self):
        """Return the arguments in the parentheses that begin here."""
        arguments = []
        before = "("
        while self.cursor.word() == before:
            self.cursor.take()
            arguments.append(self.take_term())
            before = ","
        self.cursor.need(self.cursor.word() == ")", ", or )")
        self.cursor.take()
        return tuple(arguments)

    def with_symbols(self, term, is_atom):
        """Return the term with symbols in the place of names."""
        # Only behind a term it is known whether its first name is a predicate. So symbols are looked up
        # afterwards, a name before those in its arguments, as they stand in the text.
        if is_variable(term):
            return term
        name, arguments = term
        n = self.index_of(is_atom, name)
        symbol = predicate(n) if is_atom else function(n)
        return (symbol, tuple([self.with_symbols(argument, False) for argument in arguments]))

    def index_of(self, is_predicate, name):
        """Return the index of the predicate or the function in the table, which gets it if it is new."""
        if (is_predicate, name) not in self.known:
            self.known[(is_predicate, name)] = len(self.names)
            self.names.append((is_predicate, name))
        return self.known[(is_predicate, name)]
