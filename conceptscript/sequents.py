"""Sequents, and their proofs with cuts and without."""

from conceptscript.cutfree import cut_free
from conceptscript.formulas import axiom, match, put
from conceptscript.inferences import needed
from conceptscript.proofs import hypotheses, proved
from conceptscript.shapes import is_formula, is_tuple, rises
from conceptscript.shaping import trimmed
from conceptscript.texts import read
from conceptscript.truth import breaking

# For each axiom the steps by which it is proved; a part that begins with the same formula on both sides is closed.
# No step takes out what a later one needs, whichever formulas stand for the letters.
AXIOM_STEPS = {
    1: (("if right", "a -> b -> a"), ("if right", "b -> a")),
    2: (
        ("if right", "(c -> b -> a) -> (c -> b) -> c -> a"), ("if right", "(c -> b) -> c -> a"), ("if right", "c -> a"),
        ("if left", "c -> b"), ("if left", "c -> b -> a"), ("if left", "b -> a"),
    ),
    3: (
        ("if right", "(d -> b -> a) -> b -> d -> a"), ("if right", "b -> d -> a"), ("if right", "d -> a"),
        ("if left", "d -> b -> a"), ("if left", "b -> a"),
    ),
    4: (
        ("if right", "(b -> a) -> ~a -> ~b"), ("if right", "~a -> ~b"), ("not right", "~b"),
        ("if left", "b -> a"), ("not left", "~a"),
    ),
    5: (("if right", "~~a -> a"), ("not left", "~~a"), ("not right", "~a")),
    6: (("if right", "a -> ~~a"), ("not right", "~~a"), ("not left", "~a")),
}


def is_sequent_proof(proof):
    """Whether a value, whatever it is, is a proof of a sequent."""
    if not is_tuple(proof, 5) or not is_side(proof[1]) or not is_side(proof[2]):
        return False
    waiting = [(proof, proof[1:3])]
    while waiting:
        part, sequent = waiting.pop()
        if not is_tuple(part, 5) or part[1:3] != sequent:
            return False
        inner = needed_parts(part)
        if inner is None or not is_tuple(part[4], len(inner)):
            return False
        waiting.extend(list(zip(part[4], inner)))
    return True


def is_side(value):
    """Whether a value is a side of a sequent."""
    return type(value) is tuple and all(is_formula(part) for part in value) and rises(value)


def needed_parts(proof):
    """The sequents that the parts must prove, or None if the step is none; the proof's own sequent is one."""
    kind, left, right, formula, _ = proof
    # The formula of another step stands in the sequent, so it is one.
    if kind == "cut" and not is_formula(formula):
        return None
    return needed(kind, left, right, formula)


def proofs_within(proof):
    """All proofs that stand in a proof, itself among them."""
    found = [proof]
    place = 0
    while place < len(found):
        found.extend(found[place][4])
        place += 1
    return found


def has_cut(proof):
    """Whether a cut stands in the proof."""
    return any(part[0] == "cut" for part in proofs_within(proof))


def nodes(proof):
    """How many proofs stand in the proof, itself among them."""
    return len(proofs_within(proof))


def decide_sequent(left, right):
    """("proof", a proof without cuts) of the sequent, or ("row", the first row that breaks it)."""
    row = breaking(left, right)
    if row is not None:
        return ("row", row)
    return ("proof", cut_free(left, right))


def without_cuts(proof):
    """A proof of the same sequent without cuts."""
    kind, left, right, formula, parts = proof
    if kind == "cut":
        return cut_free(left, right)
    return (kind, left, right, formula, tuple([without_cuts(part) for part in parts]))


def sequents_of(proof):
    """A sequent proof of what a plain proof proves, on the right, from its hypotheses, on the left."""
    return line_by_line(trimmed(proof), 0, tuple(sorted(hypotheses(proof))), (proved(proof),))


def line_by_line(proof, line, left, right):
    """The sequent proof by the lines from this one on; the formulas of those before it stand on the left."""
    formula, _ = proof[line]
    if line == len(proof) - 1:
        return by_steps(left, right, steps_for(proof, line))
    if formula in left:
        return line_by_line(proof, line + 1, left, right)
    first, second = needed("cut", left, right, formula)
    parts = (by_steps(first[0], first[1], steps_for(proof, line)), line_by_line(proof, line + 1, second[0], second[1]))
    return ("cut", left, right, formula, parts)


def steps_for(proof, line):
    """The steps by which the formula of a line is proved from those before it."""
    formula, why = proof[line]
    if why[0] == "hypothesis":
        return []
    if why[0] == "detach":
        return [("if left", proof[why[1]][0])]
    table = match(axiom(why[1]), formula)
    return [(kind, put(read(text), table)) for kind, text in AXIOM_STEPS[why[1]]]


def by_steps(left, right, steps):
    """The proof of a sequent by steps, the same for all parts, until a formula stands on both sides."""
    for formula in right:
        if formula in left:
            return ("start", left, right, formula, ())
    kind, formula = steps[0]
    parts = []
    for first, second in needed(kind, left, right, formula):
        parts.append(by_steps(first, second, steps[1:]))
    return (kind, left, right, formula, tuple(parts))


def formula_of(left, right):
    """The formula of a sequent."""
    if right:
        conditions = left + tuple([("not", formula) for formula in right[:-1]])
        whole = right[-1]
    else:
        conditions = left[:-1]
        whole = ("not", left[-1])
    for condition in reversed(conditions):
        whole = ("if", condition, whole)
    return whole
