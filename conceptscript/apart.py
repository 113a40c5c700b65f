"""Why no axiom but the third one follows from the others."""

from conceptscript.building import Lines
from conceptscript.formulas import axiom
from conceptscript.shaping import discharged
from conceptscript.tables import parts, rows_over
from conceptscript.truth import selections

# Each keeps the rule and all axioms but its own.
TABLES = {
    1: ("table", 3, (0, 1), (0, 2, 1), ((0, 1, 2), (2, 1, 2), (1, 1, 1))),
    2: ("table", 3, (0,), (1, 0, 2), ((0, 1, 2), (0, 0, 0), (0, 2, 0))),
    4: ("table", 2, (0,), (0, 1), ((0, 1), (0, 0))),
    5: ("table", 2, (0,), (0, 0), ((0, 1), (0, 0))),
    6: ("table", 2, (0,), (1, 1), ((0, 1), (0, 0))),
}


def why_apart(k):
    """A table that keeps the rule and all axioms but axiom k; for axiom 3 a proof of it from the axioms 1 and 2."""
    if k == 3:
        return proof_of_third()
    return TABLES[k]


def proof_of_third():
    """The proof of axiom 3 from the axioms 1 and 2."""
    _, whole, (_, second, (_, first, _)) = axiom(3)
    lines = Lines()
    given = [lines.added(formula, ("hypothesis",)) for formula in (whole, first, second)]
    proof = lines.upto(lines.detach(lines.detach(given[0], given[1]), given[2]))
    for formula in (first, second, whole):
        proof = discharged(proof, formula)
    return proof


def find_table(axioms, formula):
    """The first table with one or two values that keeps the rule and the axioms, but not the formula, or None."""
    for many in (1, 2):
        for table in tables_with(many):
            if parts(table, axioms, formula):
                return table
    return None


def tables_with(many):
    """All tables with so many values, in the order of the tuples."""
    rows = rows_over(many, many)
    sides = [()]
    for _ in range(many):
        sides = [ifs + (row,) for ifs in sides for row in rows]
    designations = selections(tuple(range(many)))
    return [("table", many, designated, nots, ifs) for designated in designations for nots in rows for ifs in sides]
