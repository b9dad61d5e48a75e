"""The texts of derivations."""

from lastproof.errors import NoDerivation
from lastproof.texts.reading import indexes, number_of, parsed
from lastproof.texts.writing import term_text

HEADER = "lastproof derivation 1"

# What the parts of a step are, behind its word.
PARTS = {
    "given": ("number", "number"),
    "superpose": ("number", "substitution", "number", "side", "place", "number", "substitution", "number", "side"),
    "resolve": ("number", "substitution", "number"),
    "factor": ("number", "substitution", "number", "side", "number", "side"),
    "instance": ("number", "substitution"),
    "clean": ("number",),
}


def derivation_text(steps, names):
    """Return the text of a derivation."""
    return "".join([f"{line}\n" for line in [HEADER] + [step_text(step, names) for step in steps]])


def step_text(step, names):
    """Return the line of a step."""
    word = step[0]
    texts = [part_text(kind, part, names) for kind, part in zip(PARTS[word], step[1:])]
    return "|".join([word] + texts)


def part_text(kind, part, names):
    """Return the text of a part of this kind."""
    if kind == "substitution":
        return ";".join([f"{variable}={term_text(part[variable], names)}" for variable in part])
    if kind == "place":
        return ".".join([str(position) for position in part])
    return str(part)


def read_derivation(text, names):
    """Return the list of the steps of the derivation with this text. Raises NoDerivation if there is none."""
    lines = text.split("\n")
    if len(lines) < 2 or lines[0] != HEADER or lines[-1]:
        raise NoDerivation("not the text of a derivation")
    known = indexes(names)
    steps = [step_of(line, known) for line in lines[1:-1]]
    if None in steps:
        raise NoDerivation("a line is not the text of a step")
    return steps


def step_of(line, known):
    """Return the step with this line, or None."""
    word, *texts = line.split("|")
    if word not in PARTS or len(texts) != len(PARTS[word]):
        return None
    parts = [part_of_text(kind, text, known) for kind, text in zip(PARTS[word], texts)]
    return None if None in parts else tuple([word] + parts)


def part_of_text(kind, text, known):
    """Return the part of this kind with this text, or None."""
    if kind == "substitution":
        return substitution_of(text, known)
    if kind == "place":
        return place_of(text)
    number = number_of(text)
    if kind == "side" and number not in (0, 1):
        return None
    return number


def place_of(text):
    """Return the place with this text, or None."""
    if not text:
        return ()
    positions = [number_of(position) for position in text.split(".")]
    return None if None in positions else tuple(positions)


def substitution_of(text, known):
    """Return the substitution with this text, or None."""
    found = {}
    for pair in text.split(";") if text else []:
        key, sign, value = pair.partition("=")
        variable = number_of(key)
        term = parsed(value, known, False)
        if variable is None or not sign or term is None or variable in found:
            return None
        found[variable] = term
    return found
