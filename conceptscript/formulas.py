"""Formulas: their size and letters, putting and matching, the axioms and the strengths."""

AXIOMS = {
    1: ("if", ("letter", "a"), ("if", ("letter", "b"), ("letter", "a"))),
    2: (
        "if",
        ("if", ("letter", "c"), ("if", ("letter", "b"), ("letter", "a"))),
        ("if", ("if", ("letter", "c"), ("letter", "b")), ("if", ("letter", "c"), ("letter", "a"))),
    ),
    3: (
        "if",
        ("if", ("letter", "d"), ("if", ("letter", "b"), ("letter", "a"))),
        ("if", ("letter", "b"), ("if", ("letter", "d"), ("letter", "a"))),
    ),
    4: (
        "if",
        ("if", ("letter", "b"), ("letter", "a")),
        ("if", ("not", ("letter", "a")), ("not", ("letter", "b"))),
    ),
    5: ("if", ("not", ("not", ("letter", "a"))), ("letter", "a")),
    6: ("if", ("letter", "a"), ("not", ("not", ("letter", "a")))),
}

STRENGTHS = {
    "positive": (1, 2, 3),
    "minimal": (1, 2, 3, 4, 6),
    "full": (1, 2, 3, 4, 5, 6),
}


def size(formula):
    """How many letters, negations and conditionals the formula has."""
    many = 0
    waiting = [formula]
    while waiting:
        part = waiting.pop()
        many += 1
        if part[0] != "letter":
            waiting.extend(part[1:])
    return many


def letters(formula):
    """The names of the formula's letters, as a rising tuple."""
    names = set()
    waiting = [formula]
    while waiting:
        part = waiting.pop()
        if part[0] == "letter":
            names.add(part[1])
        else:
            waiting.extend(part[1:])
    return tuple(sorted(names))


def put(formula, table):
    """The formula with the table's formulas in place of its letters, all at once."""
    if formula[0] == "letter":
        return table.get(formula[1], formula)
    if formula[0] == "not":
        return ("not", put(formula[1], table))
    return ("if", put(formula[1], table), put(formula[2], table))


def match(pattern, formula):
    """The dict of the pattern's letters with which put gives the formula, or None."""
    table = {}
    waiting = [(pattern, formula)]
    while waiting:
        wanted, given = waiting.pop()
        if wanted[0] == "letter":
            if table.setdefault(wanted[1], given) != given:
                return None
        elif wanted[0] != given[0]:
            return None
        else:
            waiting.extend(list(zip(wanted[1:], given[1:])))
    return table


def axiom(k):
    """The formula of the axiom k, or None if there is none of this number."""
    return AXIOMS.get(k)


def is_instance(k, formula):
    """Whether the formula is an instance of the axiom k."""
    pattern = axiom(k)
    return pattern is not None and match(pattern, formula) is not None


def numbers(strength):
    """The numbers of the axioms that a strength has."""
    return STRENGTHS[strength]
