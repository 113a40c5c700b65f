"""Truth of formulas under rows of values."""

from conceptscript.formulas import letters


def is_true(formula, row):
    """Whether the formula is true if the letters of the row are true and all others false."""
    if formula[0] == "letter":
        return formula[1] in row
    if formula[0] == "not":
        return not is_true(formula[1], row)
    return not is_true(formula[1], row) or is_true(formula[2], row)


def falsifying(formula):
    """The first row of the formula's letters that makes it false, or None."""
    return refuting((), formula)


def refuting(assumed, formula):
    """The first row of all letters that makes what is assumed true and the formula false, or None."""
    return breaking(assumed, (formula,))


def breaking(left, right):
    """The first row of all letters that makes all formulas on the left true and all on the right false, or None."""
    for row in selections(names_of((*left, *right))):
        if not any(is_true(part, row) for part in right) and all(is_true(part, row) for part in left):
            return row
    return None


def alike(formula, other):
    """The first row of both formulas' letters under which just one of them is true, or None."""
    for row in selections(names_of((formula, other))):
        if is_true(formula, row) != is_true(other, row):
            return row
    return None


def names_of(formulas):
    """The names of the letters of all the formulas, as a rising tuple."""
    return tuple(sorted({name for formula in formulas for name in letters(formula)}))


def selections(items):
    """All rising tuples of some of the items, which rise themselves, in the order of the tuples."""
    found = [()]
    for item in reversed(items):
        # Behind the empty tuple come those that begin with this item, then those that begin with a later one.
        found = [()] + [(item,) + rest for rest in found] + found[1:]
    return found
