"""Normal forms: one formula for each set of rows over names."""

from conceptscript.classical import prove
from conceptscript.formulas import letters
from conceptscript.truth import is_true, selections


def normal_of(names, rows):
    """The normal form of the rows over the names."""
    letter = ("letter", names[0])
    with_it = tuple([row[1:] for row in rows if row[:1] == names[:1]])
    without_it = tuple([row for row in rows if row[:1] != names[:1]])
    if len(names) == 1:
        return normal_of_one(letter, with_it, without_it)
    first = normal_of(names[1:], with_it)
    second = normal_of(names[1:], without_it)
    return ("not", ("if", ("if", letter, first), ("not", ("if", ("not", letter), second))))


def normal_of_one(letter, with_it, without_it):
    """The normal form over one letter: of the rows, if any, with it and without it."""
    if with_it and without_it:
        return ("if", letter, letter)
    if with_it:
        return letter
    if without_it:
        return ("not", letter)
    return ("not", ("if", letter, letter))


def normal(formula):
    """The normal form of the rows over the formula's letters that make it true."""
    names = letters(formula)
    return normal_of(names, tuple([row for row in selections(names) if is_true(formula, row)]))


def normal_proofs(formula):
    """Proofs of the conditional from the formula to its normal form, and of that back."""
    form = normal(formula)
    return (prove(("if", formula, form)), prove(("if", form, formula)))
