"""Going through the tokens of a line, with faults where a token does not fit."""

from lastproof.errors import TextFault

KEY_WORDS = ("all", "some", "not", "and", "or", "implies", "iff")


class Cursor:
    """Tokens and the position that is reached in them. The end is a last token without a word."""

    def __init__(self, items, end):
        line, column = end
        self.tokens = list(items) + [("end", "", line, column)]
        self.position = 0

    def word(self):
        """Return the word of the token at the position."""
        return self.tokens[self.position][1]

    def is_name(self):
        """Tell whether a name stands at the position."""
        return self.tokens[self.position][0] == "word" and self.word() not in KEY_WORDS

    def at_end(self):
        """Tell whether the end is reached."""
        return self.tokens[self.position][0] == "end"

    def need(self, fits, expected):
        """Raise TextFault for the token at the position unless it fits."""
        if not fits:
            refuse(self.tokens[self.position], expected)

    def take(self):
        """Return the token at the position and go on."""
        token = self.tokens[self.position]
        self.position += 1
        return token

    def take_name(self, expected):
        """Return the token of a name and go on."""
        self.need(self.is_name(), expected)
        return self.take()

    def rest(self):
        """Return the list of the tokens from the position on, without the end."""
        return self.tokens[self.position:-1]


def refuse(token, expected):
    """Raise TextFault at the token."""
    raise TextFault(token[2], token[3], expected)
