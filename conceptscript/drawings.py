"""Formulas as drawings in two dimensions."""

from conceptscript.errors import DrawingFault
from conceptscript.texts import is_digit, is_small


def draw(formula):
    """The rows of the drawing of a formula."""
    if formula[0] == "letter":
        return ("- " + formula[1],)
    if formula[0] == "not":
        return behind("*", " ", draw(formula[1]))
    return behind("+", "|", draw(formula[2])) + behind("`", " ", draw(formula[1]))


def behind(first, other, rows):
    """Rows with one sign before the first of them and another one before the others."""
    return (first + rows[0],) + tuple(other + row for row in rows[1:])


def width(formula):
    """The length of the longest row of a formula's drawing."""
    return max([len(row) for row in draw(formula)])


def height(formula):
    """How many rows a formula's drawing has."""
    return len(draw(formula))


def read_drawing(rows):
    """The formula that rows draw; raises DrawingFault.

    For each column to the left of what is drawn next a pair waits: the stroke that stands in it and, for a "+" whose
    consequence is drawn, this consequence; else None.
    """
    waiting = []
    formula = None
    for row, signs in enumerate(rows):
        if formula is not None:
            raise DrawingFault(row, 0)
        formula = drawn_whole(waiting, letter_of(waiting, row, signs))
    if formula is None:
        raise DrawingFault(len(rows), 0)
    return formula


def letter_of(waiting, row, signs):
    """The letter at the end of a row; the row's own strokes are added to those that wait."""
    column = strokes_end(waiting, row, signs)
    if signs[column:column + 1] != " ":
        raise DrawingFault(row, column)
    end = column + 2
    if not is_small(signs[column + 1:end]):
        raise DrawingFault(row, column + 1)
    if is_digit(signs[end:end + 1]):
        end += 1
    if end < len(signs):
        raise DrawingFault(row, end)
    return ("letter", signs[column + 1:end])


def strokes_end(waiting, row, signs):
    """The column behind the strokes of a row, which are added to those that wait."""
    start = signs_before(waiting, row, signs)
    column = start
    while signs[column:column + 1] in ("-", "*", "+"):
        waiting.append((signs[column], None))
        column += 1
    # A letter's own stroke is "-", so no letter follows where there is no stroke or another one.
    if column == start or signs[column - 1] != "-":
        raise DrawingFault(row, column)
    return column


def signs_before(waiting, row, signs):
    """How many signs must stand before a row's own strokes; they do."""
    wanted = ["|" if is_open(stroke, consequence) else " " for stroke, consequence in waiting]
    if wanted:
        wanted[-1] = "`"
    for column, sign in enumerate(wanted):
        if signs[column:column + 1] != sign:
            raise DrawingFault(row, column)
    return len(wanted)


def is_open(stroke, consequence):
    """Whether a stroke is that of a conditional whose consequence is not drawn whole."""
    return stroke == "+" and consequence is None


def drawn_whole(waiting, formula):
    """The formula of the whole drawing if it ends with this one, which has just been drawn; else None.

    Then the conditional whose condition is drawn next is the last one that waits.
    """
    while waiting:
        stroke, consequence = waiting.pop()
        if is_open(stroke, consequence):
            waiting.append((stroke, formula))
            return None
        if stroke == "+":
            formula = ("if", formula, consequence)
        elif stroke == "*":
            formula = ("not", formula)
    return formula
