"""Reading problems and edits, line by line."""

from lastproof.formulas.cursor import Cursor, refuse
from lastproof.formulas.parsing import parse_formula
from lastproof.formulas.tokens import tokens
from lastproof.problems.problem import Problem, Told
from lastproof.texts.reading import number_of

PROBLEM_WORDS = ("axiom", "goal", "question", "predicate", "function", "weight", "next")
EDIT_WORDS = ("axiom", "goal", "question", "without")
GREATEST_WEIGHT = 1000
GREATEST_NUMBER = 1000000
MOST_TOLD = 100


def read_problem(text):
    """Return the problem with this text. Raises TextFault if there is none."""
    draft = Problem([], [], [], 0)
    take_lines(draft, text, PROBLEM_WORDS)
    return draft


def edited(problem, text):
    """Return the problem after the edit with this text. Raises TextFault if it is no edit of the problem."""
    draft = Problem(problem.names, problem.heavy, problem.told, problem.next_number)
    take_lines(draft, text, EDIT_WORDS)
    return draft


def take_lines(draft, text, words):
    """Let the lines of the text take effect on the draft, where a line may begin with these words."""
    expected = ", ".join(words[:-1]) + " or " + words[-1]
    for k, line_text in enumerate(text.split("\n")):
        cursor = Cursor(tokens(line_text, k + 1), (k + 1, len(line_text) + 1))
        if not cursor.at_end():
            cursor.need(cursor.word() in words, expected)
            action = ACTIONS[cursor.take()[1]]
            action(draft, cursor, line_text)


def tell(draft, cursor, line_text):
    """Add an axiom, a goal or a question."""
    # The word of the line has been taken.
    kind = cursor.tokens[0][1]
    name = cursor.take_name("a name")
    cursor.need(cursor.word() == ":", ":")
    cursor.take()
    formula, names = parse_formula(cursor.rest(), cursor.tokens[-1][2:], draft.names)
    check_telling(draft, kind, name)
    draft.names = names
    draft.told.append(Told(name[1], draft.next_number, kind, formula, line_text))
    draft.next_number += 1


def check_telling(draft, kind, name):
    """Raise TextFault at the name unless something of this kind can be told under it."""
    if name[1] in [told.name for told in draft.told]:
        refuse(name, "another name")
    if kind != "axiom" and any(told.kind != "axiom" for told in draft.told):
        refuse(name, "no second goal or question")
    if len(draft.told) >= MOST_TOLD or draft.next_number >= GREATEST_NUMBER:
        refuse(name, "less")


def add_name(draft, cursor, _):
    """Add a predicate or a function to the table of names."""
    is_predicate = cursor.tokens[0][1] == "predicate"
    name = cursor.take_name("a name")
    cursor.need(cursor.at_end(), "the end")
    if (is_predicate, name[1]) in draft.names:
        refuse(name, "another name")
    draft.names.append((is_predicate, name[1]))


def add_weight(draft, cursor, _):
    """Add the weight of a name."""
    name = cursor.take_name("a name")
    weight = taken_number(cursor, 1, GREATEST_WEIGHT)
    cursor.need(cursor.at_end(), "the end")
    if name[1] in [heavy_name for heavy_name, _ in draft.heavy]:
        refuse(name, "another name")
    draft.heavy.append((name[1], number_of(weight[1])))


def move_on(draft, cursor, _):
    """Set the next number."""
    token = taken_number(cursor, 0, GREATEST_NUMBER)
    cursor.need(cursor.at_end(), "the end")
    number = number_of(token[1])
    if number < draft.next_number:
        refuse(token, "a greater number")
    draft.next_number = number


def untell(draft, cursor, _):
    """Remove what is told under a name."""
    name = cursor.take_name("a name")
    cursor.need(cursor.at_end(), "the end")
    left = [told for told in draft.told if told.name != name[1]]
    if len(left) == len(draft.told):
        refuse(name, "the name of something told")
    draft.told = left


def taken_number(cursor, least, greatest):
    """Return the token of a number within these bounds and go on."""
    # A word of more than 40 digits is a bad token. It is not read, since it may be very long.
    kind, word = cursor.tokens[cursor.position][:2]
    number = number_of(word) if kind == "word" else None
    cursor.need(number is not None and least <= number <= greatest, f"a number from {least} to {greatest}")
    return cursor.take()


ACTIONS = {
    "axiom": tell, "goal": tell, "question": tell, "predicate": add_name, "function": add_name,
    "weight": add_weight, "next": move_on, "without": untell,
}
