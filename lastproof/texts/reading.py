"""Reading the texts of terms and clauses. A text is read only if it is exactly the text of something."""

from lastproof.errors import NoClause, NoTerm
from lastproof.terms.symbols import TRUTH, answer, function, part_name, predicate, skolem

DIGITS = "0123456789"


def read_term(text, names):
    """Return the individual term with this text. Raises NoTerm if there is none."""
    term = parsed(text, indexes(names), False)
    if term is None:
        raise NoTerm("not the text of an individual term")
    return term


def read_atom_or_term(text, names):
    """Return the individual term, or else the atomic atom with this text. Raises NoTerm if there is neither."""
    known = indexes(names)
    term = parsed(text, known, False)
    if term is None:
        term = parsed(text, known, True)
    if term is None:
        raise NoTerm("not the text of an individual term or an atomic atom")
    return term


def read_clause(text, names):
    """Return the well formed clause with this text. Raises NoClause if there is none."""
    if text == "[]":
        return ()
    known = indexes(names)
    clause = [parsed_literal(part, known) for part in text.split(" or ")]
    if None in clause:
        raise NoClause("not the text of a well formed clause")
    return tuple(clause)


def indexes(names):
    """Return the dict that maps the elements of the table of names to their indexes."""
    return {(is_predicate, name): n for n, (is_predicate, name) in enumerate(names)}


def parsed_literal(text, known):
    """Return the well formed literal with this text, or None."""
    for sign, positive in ((" = ", True), (" != ", False)):
        left, found, right = text.partition(sign)
        if found:
            return of_sides(positive, parsed(left, known, False), parsed(right, known, False))
    if text.startswith("not "):
        return of_sides(False, parsed(text[4:], known, True), TRUTH)
    return of_sides(True, parsed(text, known, True), TRUTH)


def of_sides(positive, left, right):
    """Return the literal with these sides, or None if one of them is None."""
    if left is None or right is None:
        return None
    return (positive, left, right)


def parsed(text, known, is_atom):
    """Return the atomic atom or the individual term with this text, or None."""
    begun = []
    term = None
    # A loop with a list of what is begun: any text ends here, however deep its parentheses go.
    for k, piece in enumerate(pieces(text)):
        at_root = is_atom and k == 0
        if term is not None:
            if not begun or piece not in (", ", ")"):
                return None
            begun[-1][1].append(term)
            term = ended(begun.pop()) if piece == ")" else None
        elif piece.endswith("("):
            begun.append((symbol_of(piece[:-1], known, at_root), []))
            if begun[-1][0] is None:
                return None
        else:
            term = leaf_of(piece, known, at_root)
            if term is None:
                return None
    return None if begun else term


def ended(beginning):
    """Return the compound of a symbol and the list of its arguments."""
    symbol, arguments = beginning
    return (symbol, tuple(arguments))


def pieces(text):
    """Return the list of the pieces of the text: words, each with a parenthesis that it opens, and signs."""
    found = []
    start = 0
    while start < len(text):
        end = piece_end(text, start)
        found.append(text[start:end])
        start = end
    return found


def piece_end(text, start):
    """Return the index behind the piece that begins at the start."""
    if text[start:start + 2] == ", ":
        return start + 2
    end = start
    while end < len(text) and text[end] not in "(), ":
        end += 1
    # A sign that ends no word is a piece of its own, which is read as nothing unless it fits.
    if end == start or text[end:end + 1] == "(":
        return end + 1
    return end


def leaf_of(word, known, is_atom):
    """Return the variable or the constant with this text, or None."""
    if word.startswith("?") and not is_atom:
        return number_of(word[1:])
    symbol = symbol_of(word, known, is_atom)
    return None if symbol is None else (symbol, ())


def symbol_of(word, known, is_atom):
    """Return the symbol of an atom, or of an individual term, with this word, or None."""
    n = known.get((is_atom, word))
    if n is not None:
        return predicate(n) if is_atom else function(n)
    mark, rest = word[:1], word[1:]
    if not is_atom:
        return of_numbers(skolem, rest) if mark == "$" else None
    if mark == "&":
        return of_numbers(part_name, rest)
    if mark == "@":
        n = number_of(rest)
        return None if n is None else answer(n)
    return TRUTH[0] if word == "#" else None


def of_numbers(make, text):
    """Return the symbol that is made of the two numbers in the text, or None."""
    first, _, second = text.partition("_")
    a = number_of(first)
    k = number_of(second)
    return None if a is None or k is None else make(a, k)


def number_of(text):
    """Return the number with exactly these digits, or None."""
    if not text or any([char not in DIGITS for char in text]):
        return None
    if text[0] == "0" and text != "0":
        return None
    return int(text)
