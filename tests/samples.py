"""Formulas for the tests, made by other ways than the program's."""

A, B, C, D = (("letter", name) for name in "abcd")
A0, B0, Z9 = (("letter", name) for name in ("a0", "b0", "z9"))
NAMES = [small + digit for small in "abcdefghijklmnopqrstuvwxyz" for digit in ("", *"0123456789")]


def no(p):
    return ("not", p)


def cond(*parts):
    """The conditional with the parts as conditions, one behind the other, and the last one as consequence."""
    whole = parts[-1]
    for part in reversed(parts[:-1]):
        whole = ("if", part, whole)
    return whole


def chance_formula(rng, size, names, levels=60):
    """A formula of just this size, with at most so many levels (more than size has binary digits)."""
    if size == 1:
        return ("letter", rng.choice(names))
    most = 2 ** (levels - 1) - 1
    if size == 2 or size - 1 <= most and rng.random() < 0.4:
        return no(chance_formula(rng, size - 1, names, levels - 1))
    left = rng.randint(max(1, size - 1 - most), min(size - 2, most))
    right = size - 1 - left
    return ("if", chance_formula(rng, left, names, levels - 1), chance_formula(rng, right, names, levels - 1))


def tower(levels, step):
    """A formula of just so many levels: the letter a under step, again and again."""
    formula = A
    for _ in range(levels - 1):
        formula = step(formula)
    return formula


TOWERS = [
    tower(60, no),
    tower(60, lambda p: ("if", p, B)),
    tower(60, lambda p: ("if", B, p)),
    tower(60, lambda p: no(("if", p, B0)) if p[0] == "not" else no(p)),
]


def signs(formula):
    """The signs of a text of the formula that has parentheses around each conditional."""
    if formula[0] == "letter":
        return [formula[1]]
    if formula[0] == "not":
        return ["~", *signs(formula[1])]
    return ["(", *signs(formula[1]), "->", *signs(formula[2]), ")"]


HYPOTHESIS = ("hypothesis",)


def chance_axiom(rng, filling):
    """An instance of some axiom with formulas that filling makes, as a line of a proof."""
    a, b, c, d = (filling() for _ in range(4))
    k = rng.randint(1, 6)
    return [
        cond(a, b, a),
        cond(cond(c, b, a), cond(c, b), c, a),
        cond(cond(d, b, a), b, d, a),
        cond(cond(b, a), no(a), no(b)),
        cond(no(no(a)), a),
        cond(a, no(no(a))),
    ][k - 1], ("axiom", k)


def chance_proof(rng, many, names):
    """A right proof of so many lines, with formulas that stand in several lines and lines that nothing needs."""
    lines = []
    while len(lines) < many:
        formulas = [formula for formula, _ in lines]
        ready = [(i, j) for i, whole in enumerate(formulas) for j, part in enumerate(formulas)
                 if whole[0] == "if" and whole[1] == part]
        fresh = [pair for pair in ready if formulas[pair[0]][2] not in formulas]
        chance = rng.random()
        if fresh and chance < 0.5:
            i, j = rng.choice(fresh)
            lines.append((formulas[i][2], ("detach", i, j)))
        elif ready and chance < 0.55:
            i, j = rng.choice(ready)
            lines.append((formulas[i][2], ("detach", i, j)))
        elif formulas and chance < 0.7:
            lines.append((cond(rng.choice(formulas), chance_formula(rng, rng.randint(1, 3), names)), HYPOTHESIS))
        elif formulas and chance < 0.75:
            lines.append((rng.choice(formulas), HYPOTHESIS))
        elif formulas and chance < 0.85:
            part = rng.choice(formulas)
            lines.append((cond(part, chance_formula(rng, rng.randint(1, 3), names), part), ("axiom", 1)))
        elif chance < 0.95:
            lines.append(chance_axiom(rng, lambda: chance_formula(rng, rng.randint(1, 4), names)))
        else:
            lines.append((chance_formula(rng, rng.randint(1, 4), names), HYPOTHESIS))
    return tuple(lines)


# a -> a, out of the axioms 1 and 2.
SELF = (
    (cond(cond(A, cond(A, A), A), cond(A, A, A), A, A), ("axiom", 2)),
    (cond(A, cond(A, A), A), ("axiom", 1)),
    (cond(cond(A, A, A), A, A), ("detach", 0, 1)),
    (cond(A, A, A), ("axiom", 1)),
    (cond(A, A), ("detach", 2, 3)),
)

# c from a, a -> b and b -> c.
CHAIN = (
    (cond(A, B), HYPOTHESIS),
    (A, HYPOTHESIS),
    (B, ("detach", 0, 1)),
    (cond(B, C), HYPOTHESIS),
    (C, ("detach", 3, 2)),
)


def formulas_up_to(size, letters):
    """All formulas over the letters of at most this size."""
    found = [[], list(letters)]
    for many in range(2, size + 1):
        found.append([no(p) for p in found[many - 1]])
        for left in range(1, many - 1):
            found[many] += [("if", p, q) for p in found[left] for q in found[many - 1 - left]]
    return [formula for formulas in found for formula in formulas]
