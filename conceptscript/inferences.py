"""The steps of sequent proofs: what sequents their parts must prove."""


def needed(kind, left, right, formula):
    """The sequents that the parts of a proof must prove, in their order; None where such a proof does not begin so."""
    if kind == "start":
        return () if formula in left and formula in right else None
    if kind == "cut":
        return ((left, put_in(right, formula)), (put_in(left, formula), right))
    if kind == "not left" and is_there("not", left, formula):
        return ((taken_out(left, formula), put_in(right, formula[1])),)
    if kind == "not right" and is_there("not", right, formula):
        return ((put_in(left, formula[1]), taken_out(right, formula)),)
    if kind == "if left" and is_there("if", left, formula):
        rest = taken_out(left, formula)
        return ((rest, put_in(right, formula[1])), (put_in(rest, formula[2]), right))
    if kind == "if right" and is_there("if", right, formula):
        return ((put_in(left, formula[1]), put_in(taken_out(right, formula), formula[2])),)
    return None


def is_there(kind, side, formula):
    """Whether a formula stands on a side and is of this kind."""
    return formula in side and formula[0] == kind


def put_in(side, formula):
    """A side of a sequent with a formula put in."""
    return side if formula in side else tuple(sorted(side + (formula,)))


def taken_out(side, formula):
    """A side of a sequent with a formula taken out."""
    return tuple([other for other in side if other != formula])
