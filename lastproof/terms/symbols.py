"""Symbols: tuples (kind, a, k) of three integers."""

TRUTH_KIND = 0
PREDICATE_KIND = 1
FUNCTION_KIND = 2
SKOLEM_KIND = 3
PART_KIND = 4
ANSWER_KIND = 5

TRUTH = ((0, 0, 0), ())


def predicate(n):
    """Return the predicate with the index n."""
    return (PREDICATE_KIND, n, 0)


def function(n):
    """Return the function with the index n."""
    return (FUNCTION_KIND, n, 0)


def skolem(a, k):
    """Return the Skolem function with the numbers a and k."""
    return (SKOLEM_KIND, a, k)


def part_name(a, k):
    """Return the part name with the numbers a and k."""
    return (PART_KIND, a, k)


def answer(a):
    """Return the answer symbol of the question with the number a."""
    return (ANSWER_KIND, a, 0)


def comes_before(first, second):
    """Tell whether the symbol first is less than the symbol second."""
    return first < second
