"""Formulas between a formula and what follows from it, in their common letters alone."""

from conceptscript.classical import prove
from conceptscript.formulas import letters
from conceptscript.normal import normal_of
from conceptscript.truth import falsifying, is_true, selections


def interpolant(p, q):
    """("formula", i, proofs to it from p and from it to q), ("first" or "second", a proof of ~p or of q), or None."""
    if falsifying(("if", p, q)) is not None:
        return None
    names = common_letters(p, q)
    if names:
        between = strongest_over(p, names)
        return ("formula", between, prove(("if", p, between)), prove(("if", between, q)))
    if falsifying(("not", p)) is None:
        return ("first", prove(("not", p)))
    return ("second", prove(q))


def common_letters(p, q):
    """The names of the letters that stand in both formulas, as a rising tuple."""
    others = letters(q)
    return tuple([name for name in letters(p) if name in others])


def is_interpolant(p, q, i):
    """Whether i is an interpolant of p and q."""
    names = common_letters(p, q)
    if not all(name in names for name in letters(i)):
        return False
    return falsifying(("if", p, i)) is None and falsifying(("if", i, q)) is None


def strongest_over(p, names):
    """The strongest formula over the names that follows from p."""
    return normal_of(names, tuple([row for row in selections(names) if any(values_beside(p, names, row))]))


def weakest_over(p, names):
    """The weakest formula over the names from which p follows."""
    return normal_of(names, tuple([row for row in selections(names) if all(values_beside(p, names, row))]))


def values_beside(p, names, row):
    """The values of p under a row over the names and all values of its other letters."""
    others = tuple([name for name in letters(p) if name not in names])
    return [is_true(p, row + more) for more in selections(others)]
