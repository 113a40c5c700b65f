"""The most general way to make two formulas the same, and the names of letters in order."""

from conceptscript.formulas import letters, put
from conceptscript.terms import Terms

SMALL = "abcdefghijklmnopqrstuvwxyz"


def unify(formula, other):
    """The most general dict from letters to formulas with which put makes both formulas the same, or None."""
    terms = Terms()
    table = {name: terms.letter(name) for name in letters(("if", formula, other))}
    if not terms.made_same(terms.entered(formula, table), terms.entered(other, table)):
        return None
    found = terms.solved()
    if found is None:
        return None
    return {name: found[x] for name, x in table.items() if found[x] != ("letter", name)}


def renamed(formula):
    """The formula with its letters named a, b, .. in the order of its text."""
    return put(formula, naming((formula,)))


def naming(formulas):
    """The table of new letters for those of the formulas, in the order of their texts."""
    table = {}
    for formula in formulas:
        waiting = [formula]
        while waiting:
            part = waiting.pop()
            if part[0] != "letter":
                waiting.extend(part[:0:-1])
            elif part[1] not in table:
                table[part[1]] = ("letter", name_at(len(table)))
    return table


def name_at(place):
    """The name at a place of a, b, .. z, a0, b0, .. z0, a1, .."""
    many, at = divmod(place, len(SMALL))
    if many == 0:
        return SMALL[at]
    return f"{SMALL[at]}{many - 1}"
