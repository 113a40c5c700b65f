"""Plain walks through papers, from the words of the document, without the program.

Proofs, rows, models of worlds, tables, unified formulas and sequent proofs.
"""

import itertools

from samples import A, B, C, D, cond, no

PATTERNS = {
    1: cond(A, B, A),
    2: cond(cond(C, B, A), cond(C, B), C, A),
    3: cond(cond(D, B, A), B, D, A),
    4: cond(cond(B, A), no(A), no(B)),
    5: cond(no(no(A)), A),
    6: cond(A, no(no(A))),
}

AXIOMS_OF = {"positive": (1, 2, 3), "minimal": (1, 2, 3, 4, 6), "full": (1, 2, 3, 4, 5, 6)}


def is_instance(pattern, formula, found):
    """Whether the formula is the pattern with formulas for its letters; those that are known are in found."""
    if pattern[0] == "letter":
        return found.setdefault(pattern[1], formula) == formula
    if pattern[0] != formula[0]:
        return False
    return all(is_instance(part, other, found) for part, other in zip(pattern[1:], formula[1:]))


def is_right_line(proof, line):
    """Whether a line of a proof is right, by [c3] and [c4]."""
    formula, why = proof[line]
    if why[0] == "axiom":
        return len(why) == 2 and why[1] in PATTERNS and is_instance(PATTERNS[why[1]], formula, {})
    if why[0] == "hypothesis":
        return len(why) == 1
    kind, i, j = why
    return kind == "detach" and 0 <= i < line and 0 <= j < line and proof[i][0] == ("if", proof[j][0], formula)


def is_proof(proof, assumed, formula, axioms):
    """Whether a proof proves the formula from what is assumed, out of the axioms of these numbers."""
    if not isinstance(proof, tuple) or not proof or proof[-1][0] != formula:
        return False
    for line, (part, why) in enumerate(proof):
        if not is_right_line(proof, line):
            return False
        if why[0] == "hypothesis" and part not in assumed or why[0] == "axiom" and why[1] not in axioms:
            return False
    return True


def truth(formula, row):
    """The value of a formula under a row, by [c2]."""
    if formula[0] == "letter":
        return formula[1] in row
    values = [truth(part, row) for part in formula[1:]]
    if formula[0] == "not":
        return values == [False]
    return values != [True, False]


def names_in(formula):
    """The set of the names of a formula's letters."""
    if formula[0] == "letter":
        return {formula[1]}
    return set().union(*[names_in(part) for part in formula[1:]])


def all_rows(names):
    """All rows over names, in the order of the tuples."""
    names = sorted(names)
    rows = [tuple(name for at, name in enumerate(names) if bits >> at & 1) for bits in range(2 ** len(names))]
    return sorted(rows)


def is_row_counter(row, assumed, formula):
    """Whether a row is one of the letters of all and makes what is assumed true and the formula false."""
    names = set().union(*[names_in(part) for part in (*assumed, formula)])
    if not isinstance(row, tuple) or list(row) != sorted(set(row)) or not set(row) <= names:
        return False
    return not truth(formula, row) and all(truth(part, row) for part in assumed)


def is_right_model(model, strength):
    """Whether what has the shape of a model is one, by the sentences of [c7]."""
    kind, later, true, broken = model
    worlds = range(len(later))
    if kind != "model" or len(later) == 0 or len(true) != len(later):
        return False
    for seen in (*later, broken):
        if list(seen) != sorted(set(seen)) or not set(seen) <= set(worlds):
            return False
    for world in worlds:
        if world not in later[world] or len(set(true[world])) != len(true[world]):
            return False
        for formula in true[world]:
            if formula[0] != "letter" and not (formula[0] == "not" and strength == "positive"):
                return False
        for other in later[world]:
            if not set(later[other]) <= set(later[world]) or not set(true[world]) <= set(true[other]):
                return False
            if world in broken and other not in broken:
                return False
    return True


def does_hold(model, world, formula, strength):
    """Whether a formula holds in a world of a model, by the sentences of [c7]."""
    _, later, true, broken = model
    if formula[0] == "if":
        return all(does_hold(model, other, formula[2], strength)
                   for other in later[world] if does_hold(model, other, formula[1], strength))
    if formula[0] == "not" and strength == "minimal":
        return all(other in broken for other in later[world] if does_hold(model, other, formula[1], strength))
    return formula in true[world]


def is_model_counter(model, assumed, formula, strength):
    """Whether a model is one in whose world 0 all that is assumed holds and the formula does not."""
    if not is_right_model(model, strength) or does_hold(model, 0, formula, strength):
        return False
    return all(does_hold(model, 0, part, strength) for part in assumed)


def is_right_paper(paper, assumed, formula, strength):
    """Whether a paper is a right proof or counter, by [v1]."""
    kind, worth = paper
    if kind == "proof":
        return is_proof(worth, assumed, formula, AXIOMS_OF[strength])
    if kind != "counter":
        return False
    if strength == "full":
        return worth[0] == "row" and len(worth) == 2 and is_row_counter(worth[1], assumed, formula)
    return is_model_counter(worth, assumed, formula, strength)


def value_in(table, formula, values):
    """The value of a formula in a table, by [c8]."""
    _, _, _, nots, ifs = table
    if formula[0] == "letter":
        return values[formula[1]]
    if formula[0] == "not":
        return nots[value_in(table, formula[1], values)]
    return ifs[value_in(table, formula[1], values)][value_in(table, formula[2], values)]


def does_keep(table, formula):
    """Whether a formula has a designated value in a table whatever values its letters have."""
    names = sorted(names_in(formula))
    return all(value_in(table, formula, dict(zip(names, values))) in table[2]
               for values in itertools.product(range(table[1]), repeat=len(names)))


def does_keep_rule(table):
    """Whether y is designated wherever x and ifs[x][y] are."""
    _, many, designated, _, ifs = table
    return not any(x in designated and ifs[x][y] in designated and y not in designated
                   for x in range(many) for y in range(many))


def stands_apart(table, axioms, formula):
    """Whether what has the shape of a table keeps the rule and the axioms, but not the formula."""
    if not does_keep_rule(table) or does_keep(table, formula):
        return False
    return all(does_keep(table, PATTERNS[k]) for k in axioms)


def put_for(formula, table):
    """The formula with the table's formulas for its letters, all at once."""
    if formula[0] == "letter":
        return table[formula[1]] if formula[1] in table else formula
    return (formula[0], *[put_for(part, table) for part in formula[1:]])


def unified(formula, other):
    """A dict with which put_for, done again and again, makes two formulas the same; None if there is none.

    Robinson's way: the first places at which they differ are made the same by one letter at a time.
    """
    table = {}
    while True:
        pair = first_difference(formula, other)
        if pair is None:
            return table
        letter, worth = pair if pair[0][0] == "letter" else pair[::-1]
        if letter[0] != "letter" or letter[1] in names_in(worth):
            return None
        step = {letter[1]: worth}
        table = {name: put_for(part, step) for name, part in table.items()} | step
        formula, other = put_for(formula, step), put_for(other, step)


def first_difference(formula, other):
    """The first parts, as the text has them, at which formulas differ in kind or name; None if they are the same."""
    if formula == other:
        return None
    if formula[0] != other[0] or formula[0] == "letter":
        return formula, other
    for part, second in zip(formula[1:], other[1:]):
        pair = first_difference(part, second)
        if pair is not None:
            return pair


def in_text_order(formula):
    """The names of a formula's letters, as often as they occur, in the order of its text."""
    if formula[0] == "letter":
        return [formula[1]]
    return [name for part in formula[1:] for name in in_text_order(part)]


def named_in_order(formula):
    """The formula with its letters named as in [g2]."""
    new = [small + digit for digit in ("", *"0123456789") for small in "abcdefghijklmnopqrstuvwxyz"]
    return put_for(formula, {name: ("letter", new[at])
                             for at, name in enumerate(dict.fromkeys(in_text_order(formula)))})


def most_general(steps):
    """The most general formula of steps, by [g2]; None if they prove nothing."""
    if steps[0] == "axiom":
        return named_in_order(PATTERNS[steps[1]]) if steps[1] in PATTERNS else None
    first, second = most_general(steps[1]), most_general(steps[2])
    if first is None or second is None or first[0] != "if":
        return None
    # Names that no text has hold the letters of both apart.
    apart = put_for(second, {name: ("letter", name + "'") for name in names_in(second)})
    table = unified(first[1], apart)
    return None if table is None else named_in_order(put_for(first[2], table))


def is_right_sequent_proof(proof, left, right):
    """Whether what has the shape of a sequent proof is one of this sequent, by [s2]."""
    kind, own_left, own_right, formula, inner = proof
    if (own_left, own_right) != (left, right):
        return False
    without_left = tuple(sorted(set(left) - {formula}))
    without_right = tuple(sorted(set(right) - {formula}))
    if kind == "start":
        wanted = [] if formula in left and formula in right else None
    elif kind == "cut":
        wanted = [(left, with_one(right, formula)), (with_one(left, formula), right)]
    elif kind == "not left" and formula in left and formula[0] == "not":
        wanted = [(without_left, with_one(right, formula[1]))]
    elif kind == "not right" and formula in right and formula[0] == "not":
        wanted = [(with_one(left, formula[1]), without_right)]
    elif kind == "if left" and formula in left and formula[0] == "if":
        wanted = [(without_left, with_one(right, formula[1])), (with_one(without_left, formula[2]), right)]
    elif kind == "if right" and formula in right and formula[0] == "if":
        wanted = [(with_one(left, formula[1]), with_one(without_right, formula[2]))]
    else:
        wanted = None
    if wanted is None or len(wanted) != len(inner):
        return False
    return all(is_right_sequent_proof(part, *sequent) for part, sequent in zip(inner, wanted))


def with_one(side, formula):
    """A side of a sequent with a formula put in."""
    return tuple(sorted(set(side) | {formula}))


def kinds_in(proof):
    """The kinds of all sequent proofs that stand in one, itself among them."""
    return [proof[0], *[kind for part in proof[4] for kind in kinds_in(part)]]


def first_breaking(left, right):
    """The first row over the letters that breaks a sequent, or None."""
    names = set().union(*[names_in(part) for part in (*left, *right)])
    for row in all_rows(names):
        if all(truth(part, row) for part in left) and not any(truth(part, row) for part in right):
            return row
    return None
