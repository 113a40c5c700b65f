"""Tables of few values: what formulas are worth in them, and what they keep."""

from conceptscript.formulas import axiom, letters
from conceptscript.shapes import is_number, is_rising, is_tuple

MOST_VALUES = 4


def value(table, formula, values):
    """The value of a formula under the values of its letters."""
    return column(table, formula, {name: [worth] for name, worth in values.items()})[0]


def column(table, formula, columns):
    """The values of a formula, one for each place of the letters' columns."""
    if formula[0] == "letter":
        return columns[formula[1]]
    _, _, _, nots, ifs = table
    conditions = column(table, formula[1], columns)
    if formula[0] == "not":
        return [nots[x] for x in conditions]
    return [ifs[x][y] for x, y in zip(conditions, column(table, formula[2], columns))]


def is_kept(table, formula):
    """Whether a formula has a designated value whatever values its letters have."""
    _, many, designated, _, _ = table
    names = letters(formula)
    rows = rows_over(many, len(names))
    columns = {name: [row[at] for row in rows] for at, name in enumerate(names)}
    return all(x in designated for x in column(table, formula, columns))


def rows_over(many, length):
    """All tuples of so many values of a table with many values, in the order of the tuples."""
    rows = [()]
    for _ in range(length):
        rows = [row + (x,) for row in rows for x in range(many)]
    return rows


def keeps_rule(table):
    """Whether what is detached from designated values is designated."""
    _, many, designated, _, ifs = table
    return all(y in designated for x in designated for y in range(many) if ifs[x][y] in designated)


def is_table(table):
    """Whether a value, whatever it is, has the shape of a table."""
    if not is_tuple(table, 5) or table[0] != "table":
        return False
    _, many, designated, nots, ifs = table
    if not is_number(many) or not 1 <= many <= MOST_VALUES or not is_rising(designated, 0, many):
        return False
    return are_values(nots, many) and is_tuple(ifs, many) and all(are_values(row, many) for row in ifs)


def are_values(row, many):
    """Whether a value is a tuple of many values of a table with many of them."""
    return is_tuple(row, many) and all(is_number(x) and 0 <= x < many for x in row)


def parts(table, axioms, formula):
    """Whether a value is a table that keeps the rule and the axioms of these numbers, but not the formula."""
    if not is_table(table) or not keeps_rule(table):
        return False
    return all(is_kept(table, axiom(k)) for k in axioms) and not is_kept(table, formula)
