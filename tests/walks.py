"""Plain walks through papers, from the words of the document, without the program: proofs, rows and models of worlds."""

from samples import A, B, C, D, cond, no

PATTERNS = {
    1: cond(A, B, A),
    2: cond(cond(C, B, A), cond(C, B), C, A),
    3: cond(cond(D, B, A), B, D, A),
    4: cond(cond(B, A), no(A), no(B)),
    5: cond(no(no(A)), A),
    6: cond(A, no(no(A))),
}

AXIOMS_OF = {"positive": (1, 2, 3), "minimal": (1, 2, 3, 4, 6), "full": (1, 2, 3, 4, 5, 6)}


def is_instance(pattern, formula, found):
    """Whether the formula is the pattern with formulas for its letters; those that are known are in found."""
    if pattern[0] == "letter":
        return found.setdefault(pattern[1], formula) == formula
    if pattern[0] != formula[0]:
        return False
    return all(is_instance(part, other, found) for part, other in zip(pattern[1:], formula[1:]))


def is_right_line(proof, line):
    """Whether a line of a proof is right, by [c3] and [c4]."""
    formula, why = proof[line]
    if why[0] == "axiom":
        return len(why) == 2 and why[1] in PATTERNS and is_instance(PATTERNS[why[1]], formula, {})
    if why[0] == "hypothesis":
        return len(why) == 1
    kind, i, j = why
    return kind == "detach" and 0 <= i < line and 0 <= j < line and proof[i][0] == ("if", proof[j][0], formula)


def is_proof(proof, assumed, formula, axioms):
    """Whether a proof proves the formula from what is assumed, out of the axioms of these numbers."""
    if not isinstance(proof, tuple) or not proof or proof[-1][0] != formula:
        return False
    for line, (part, why) in enumerate(proof):
        if not is_right_line(proof, line):
            return False
        if why[0] == "hypothesis" and part not in assumed or why[0] == "axiom" and why[1] not in axioms:
            return False
    return True


def truth(formula, row):
    """The value of a formula under a row, by [c2]."""
    if formula[0] == "letter":
        return formula[1] in row
    values = [truth(part, row) for part in formula[1:]]
    if formula[0] == "not":
        return values == [False]
    return values != [True, False]


def names_in(formula):
    """The set of the names of a formula's letters."""
    if formula[0] == "letter":
        return {formula[1]}
    return set().union(*[names_in(part) for part in formula[1:]])


def all_rows(names):
    """All rows over names, in the order of the tuples."""
    names = sorted(names)
    rows = [tuple(name for at, name in enumerate(names) if bits >> at & 1) for bits in range(2 ** len(names))]
    return sorted(rows)


def is_row_counter(row, assumed, formula):
    """Whether a row is one of the letters of all and makes what is assumed true and the formula false."""
    names = set().union(*[names_in(part) for part in (*assumed, formula)])
    if not isinstance(row, tuple) or list(row) != sorted(set(row)) or not set(row) <= names:
        return False
    return not truth(formula, row) and all(truth(part, row) for part in assumed)


def is_right_model(model, strength):
    """Whether what has the shape of a model is one, by the sentences of [c7]."""
    kind, later, true, broken = model
    worlds = range(len(later))
    if kind != "model" or len(later) == 0 or len(true) != len(later):
        return False
    for seen in (*later, broken):
        if list(seen) != sorted(set(seen)) or not set(seen) <= set(worlds):
            return False
    for world in worlds:
        if world not in later[world] or len(set(true[world])) != len(true[world]):
            return False
        for formula in true[world]:
            if formula[0] != "letter" and not (formula[0] == "not" and strength == "positive"):
                return False
        for other in later[world]:
            if not set(later[other]) <= set(later[world]) or not set(true[world]) <= set(true[other]):
                return False
            if world in broken and other not in broken:
                return False
    return True


def does_hold(model, world, formula, strength):
    """Whether a formula holds in a world of a model, by the sentences of [c7]."""
    _, later, true, broken = model
    if formula[0] == "if":
        return all(does_hold(model, other, formula[2], strength)
                   for other in later[world] if does_hold(model, other, formula[1], strength))
    if formula[0] == "not" and strength == "minimal":
        return all(other in broken for other in later[world] if does_hold(model, other, formula[1], strength))
    return formula in true[world]


def is_model_counter(model, assumed, formula, strength):
    """Whether a model is one in whose world 0 all that is assumed holds and the formula does not."""
    if not is_right_model(model, strength) or does_hold(model, 0, formula, strength):
        return False
    return all(does_hold(model, 0, part, strength) for part in assumed)


def is_right_paper(paper, assumed, formula, strength):
    """Whether a paper is a right proof or counter, by [v1]."""
    kind, worth = paper
    if kind == "proof":
        return is_proof(worth, assumed, formula, AXIOMS_OF[strength])
    if kind != "counter":
        return False
    if strength == "full":
        return worth[0] == "row" and len(worth) == 2 and is_row_counter(worth[1], assumed, formula)
    return is_model_counter(worth, assumed, formula, strength)
