"""Formulas for the tests, made by other ways than the program's."""

A, B, C, D = (("letter", name) for name in "abcd")
A0, B0, Z9 = (("letter", name) for name in ("a0", "b0", "z9"))
NAMES = [small + digit for small in "abcdefghijklmnopqrstuvwxyz" for digit in ("", *"0123456789")]


def no(p):
    return ("not", p)


def cond(*parts):
    """The conditional with the parts as conditions, one behind the other, and the last one as consequence."""
    whole = parts[-1]
    for part in reversed(parts[:-1]):
        whole = ("if", part, whole)
    return whole


def chance_formula(rng, size, names, levels=60):
    """A formula of just this size, with at most so many levels (more than size has binary digits)."""
    if size == 1:
        return ("letter", rng.choice(names))
    most = 2 ** (levels - 1) - 1
    if size == 2 or size - 1 <= most and rng.random() < 0.4:
        return no(chance_formula(rng, size - 1, names, levels - 1))
    left = rng.randint(max(1, size - 1 - most), min(size - 2, most))
    right = size - 1 - left
    return ("if", chance_formula(rng, left, names, levels - 1), chance_formula(rng, right, names, levels - 1))


def tower(levels, step):
    """A formula of just so many levels: the letter a under step, again and again."""
    formula = A
    for _ in range(levels - 1):
        formula = step(formula)
    return formula


TOWERS = [
    tower(60, no),
    tower(60, lambda p: ("if", p, B)),
    tower(60, lambda p: ("if", B, p)),
    tower(60, lambda p: no(("if", p, B0)) if p[0] == "not" else no(p)),
]


def signs(formula):
    """The signs of a text of the formula that has parentheses around each conditional."""
    if formula[0] == "letter":
        return [formula[1]]
    if formula[0] == "not":
        return ["~", *signs(formula[1])]
    return ["(", *signs(formula[1]), "->", *signs(formula[2]), ")"]
