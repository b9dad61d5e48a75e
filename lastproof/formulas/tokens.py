"""The tokens of a line."""

WORD_CHARACTERS = "abcdefghijklmnopqrstuvwxyzABCDEFGHIJKLMNOPQRSTUVWXYZ0123456789_"
SIGNS = "(),.:="
LONGEST_WORD = 40


def tokens(line_text, line):
    """Return the list of the tokens (kind, word, line, column) of the line."""
    found = []
    start = 0
    while start < len(line_text) and line_text[start] != "#":
        if line_text[start] in " \t":
            start += 1
        else:
            kind, word = token_at(line_text, start)
            found.append((kind, word, line, start + 1))
            start += len(word)
    return found


def token_at(line_text, start):
    """Return the kind and the word of the token that begins at the start."""
    word = word_at(line_text, start)
    if word:
        return ("bad" if len(word) > LONGEST_WORD else "word", word)
    if line_text[start:start + 2] == "!=":
        return ("sign", "!=")
    character = line_text[start]
    return ("sign" if character in SIGNS else "bad", character)


def word_at(line_text, start):
    """Return the longest sequence of characters of words that begins at the start."""
    end = start
    while end < len(line_text) and line_text[end] in WORD_CHARACTERS:
        end += 1
    return line_text[start:end]
