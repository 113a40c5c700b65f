"""Promises d1, d2, d3 and the interface under conceptscript/drawings.py."""

import functools
import itertools
import random
import re
import unittest

from conceptscript.drawings import draw, height, read_drawing, width
from conceptscript.errors import BookFault, DrawingFault, ProofFault, ScriptError, TextFault
from conceptscript.texts import read
from samples import A, A0, B, C, D, NAMES, TOWERS, Z9, chance_formula, cond, no

DRAWINGS = [
    (A, ("- a",)),
    (Z9, ("- z9",)),
    (no(A), ("*- a",)),
    (no(no(A0)), ("**- a0",)),
    (cond(A, B), ("+- b", "`- a")),
    (no(cond(A, B)), ("*+- b", " `- a")),
    (cond(no(A), B), ("+- b", "`*- a")),
    (cond(A, no(B)), ("+*- b", "`- a")),
    (cond(A, B, C), ("++- c", "|`- b", "`- a")),
    (cond(cond(A, B), C), ("+- c", "`+- b", " `- a")),
    (cond(A, B, C, D), ("+++- d", "||`- c", "|`- b", "`- a")),
    (cond(cond(A, B), cond(C, D)), ("++- d", "|`- c", "`+- b", " `- a")),
    (cond(A, cond(B, C), D), ("++- d", "|`+- c", "| `- b", "`- a")),
    (cond(cond(cond(A, B), C), D), ("+- d", "`+- c", " `+- b", "  `- a")),
    (no(cond(no(cond(A, B)), no(cond(C, D)))), ("*+*+- d", " | `- c", " `*+- b", "   `- a")),
    (read("(a -> b) -> ~b -> ~a"), ("++*- a", "|`*- b", "`+- b", " `- a")),
]


def fault_of(rows):
    """The row and the column of the fault of a drawing, or None."""
    try:
        read_drawing(rows)
    except DrawingFault as fault:
        return fault.row, fault.column
    return None


@functools.lru_cache(maxsize=None)
def is_drawing(rows):
    """Whether rows are a drawing, straight from the words of d1 and d2: by taking off its first column."""
    if len(rows) == 1 and re.fullmatch("- [a-z][0-9]?", rows[0]):
        return True
    first = rows[0][:1] if rows else ""
    columns = "".join(row[:1] for row in rows)
    inner = tuple(row[1:] for row in rows)
    if first in ("-", "*"):
        return columns == first + " " * (len(rows) - 1) and is_drawing(inner)
    under = columns.find("`")
    if first != "+" or under < 0 or columns != "+" + "|" * (under - 1) + "`" + " " * (len(rows) - under - 1):
        return False
    return is_drawing(inner[:under]) and is_drawing(inner[under:])


@functools.lru_cache(maxsize=None)
def ends_of_rows(wide):
    """Ends of a row that begins a condition below a row with its last + in this column, or nearer."""
    return ["".join(signs) + "`- a" for many in range(wide + 1) for signs in itertools.product(" |", repeat=many)]


@functools.lru_cache(maxsize=None)
def is_begun(rows):
    """Whether some drawing has these rows first; each + needs a row of its own."""
    missing = "".join(rows).count("+") + 1 - len(rows)
    if missing <= 0:
        return missing == 0 and is_drawing(rows)
    return any(is_begun((*rows, end)) for end in ends_of_rows(max(row.rfind("+") for row in rows)))


def expected_fault(rows):
    """The first fault of rows, by trying at each place whether a drawing goes on."""
    for row, signs in enumerate(rows):
        for column in range(len(signs) + 1):
            part = signs[:column + 1]
            rests = [""]
            if column < len(signs):
                # Only in a further row can the signs before its own strokes be missing.
                rests += ["a", " a", "- a", *(ends_of_rows(max(row.rfind("+") for row in rows)) if row else ())]
            if not any(is_begun(rows[:row] + (part + rest,)) for rest in rests):
                return row, column
    return None if is_drawing(rows) else (len(rows), 0)


def with_longer_strokes(rng, formula, many):
    """A drawing of the formula with up to so many needless strokes in each place."""
    extra = rng.randint(0, many)
    if formula[0] == "letter":
        rows = ("-" * rng.randint(0, many) + "- " + formula[1],)
    elif formula[0] == "not":
        rows = with_longer_strokes(rng, formula[1], many)
        rows = ("*" + rows[0], *(" " + row for row in rows[1:]))
    else:
        above = with_longer_strokes(rng, formula[2], many)
        under = with_longer_strokes(rng, formula[1], many)
        rows = ("+" + above[0], *("|" + row for row in above[1:]), "`" + under[0], *(" " + row for row in under[1:]))
    return ("-" * extra + rows[0], *(" " * extra + row for row in rows[1:]))


class TestDraw(unittest.TestCase):
    def test_drawings(self):
        for formula, rows in DRAWINGS:
            with self.subTest(rows=rows):
                self.assertEqual(draw(formula), rows)

    def test_rows_by_the_words_of_the_document(self):
        rng = random.Random(21)
        for _ in range(300):
            formula = chance_formula(rng, rng.randint(1, 40), NAMES[:40])
            rows = draw(formula)
            self.assertIsInstance(rows, tuple)
            if formula[0] == "not":
                inner = draw(formula[1])
                self.assertEqual(rows, ("*" + inner[0], *(" " + row for row in inner[1:])))
            if formula[0] == "if":
                under, above = draw(formula[1]), draw(formula[2])
                self.assertEqual(rows[:len(above)], ("+" + above[0], *("|" + row for row in above[1:])))
                self.assertEqual(rows[len(above):], ("`" + under[0], *(" " + row for row in under[1:])))

    def test_width_and_height(self):
        self.assertEqual([width(formula) for formula in (A, Z9, no(A), cond(A, B), cond(A0, B))], [3, 4, 4, 4, 5])
        self.assertEqual([height(formula) for formula in (A, no(A), cond(A, B), cond(A, B, A))], [1, 1, 2, 3])
        rng = random.Random(22)
        formulas = [chance_formula(rng, many, NAMES[:40]) for many in (1, 2, 3, 10, 50, 200, 400, 400)]
        for formula in [*formulas, *TOWERS, *(formula for formula, _ in DRAWINGS)]:
            rows = draw(formula)
            self.assertEqual(width(formula), max(map(len, rows)))
            self.assertEqual(height(formula), len(rows))


class TestReadDrawing(unittest.TestCase):
    def test_drawings(self):
        for formula, rows in DRAWINGS:
            with self.subTest(rows=rows):
                self.assertEqual(read_drawing(rows), formula)

    def test_what_draw_gives(self):
        rng = random.Random(23)
        for many in [*range(1, 60), 200, 399, *[400] * 10]:
            formula = chance_formula(rng, many, rng.sample(NAMES, 40))
            self.assertEqual(read_drawing(draw(formula)), formula)
        for tower in TOWERS:
            self.assertEqual(read_drawing(draw(tower)), tower)

    def test_longer_strokes_before_a_letter(self):
        for many in (1, 2, 50):
            more = "-" * many
            self.assertEqual(read_drawing((more + "- a",)), A)
            self.assertEqual(read_drawing(("*" + more + "- a0",)), no(A0))
            self.assertEqual(read_drawing(("+" + more + "- b", "`- a")), cond(A, B))
            self.assertEqual(read_drawing(("+- b", "`" + more + "- a")), cond(A, B))

    def test_longer_strokes_in_each_place_of_a_first_row(self):
        for many in (1, 3):
            more, less = "-" * many, " " * many
            for rows in [
                (more + "+*- b", less + "`*- a"),
                ("+" + more + "*- b", "`*- a"),
                ("+*" + more + "- b", "`*- a"),
                ("+*- b", "`" + more + "*- a"),
                ("+*- b", "`*" + more + "- a"),
                (more + "+" + more + "*" + more + "- b", less + "`" + more + "*" + more + "- a"),
            ]:
                with self.subTest(rows=rows):
                    self.assertEqual(read_drawing(rows), cond(no(A), no(B)))
                    self.assertEqual(draw(read_drawing(rows)), ("+*- b", "`*- a"))
            self.assertEqual(read_drawing(("+" + more + "+- c", "|" + less + "`- b", "`- a")), cond(A, B, C))
            self.assertEqual(read_drawing(("+- c", "`" + more + "+- b", " " + less + "`- a")), cond(cond(A, B), C))
            self.assertEqual(read_drawing(("*" + more + "+- b", " " + less + "`- a")), no(cond(A, B)))

    def test_longer_strokes_by_chance(self):
        rng = random.Random(24)
        for _ in range(300):
            formula = chance_formula(rng, rng.randint(1, 30), NAMES[:40])
            rows = with_longer_strokes(rng, formula, rng.randint(1, 3))
            self.assertEqual(read_drawing(rows), formula)
            self.assertEqual(draw(read_drawing(rows)), draw(formula))
        formula = chance_formula(rng, 400, NAMES[:40])
        self.assertEqual(read_drawing(with_longer_strokes(rng, formula, 5)), formula)


class TestFaults(unittest.TestCase):
    def test_one_row(self):
        for row, column in [
            ("", 0), (" ", 0), ("a", 0), ("|", 0), ("`- a", 0), (" - a", 0), ("A", 0),
            ("-", 1), ("-a", 1), ("*", 1), ("* a", 1), ("+ a", 1), ("*a", 1), ("-|", 1),
            ("--", 2), ("-- ", 3), ("- ", 2), ("-  a", 2), ("- -a", 2), ("- A", 2), ("- 5", 2), ("- *", 2),
            ("-* a", 2), ("-+ a", 2), ("*- ", 3), ("- aa", 3), ("- a ", 3), ("- a-", 3), ("- a55", 4), ("- a5 ", 4),
            ("- a5a", 4), ("-*-+", 4),
        ]:
            with self.subTest(row=row):
                self.assertEqual(fault_of((row,)), (0, column))

    def test_missing_rows(self):
        self.assertEqual(fault_of(()), (0, 0))
        self.assertEqual(fault_of(("+- b",)), (1, 0))
        self.assertEqual(fault_of(("++- c", "|`- b")), (2, 0))
        self.assertEqual(fault_of(("+- c", "`+- b")), (2, 0))
        for _, rows in DRAWINGS:
            for many in range(len(rows)):
                self.assertEqual(fault_of(rows[:many]), (many, 0))

    def test_rows_too_many(self):
        for _, rows in DRAWINGS:
            for more in ("", "- a", "`- a", " ", "|", rows[-1]):
                self.assertEqual(fault_of((*rows, more)), (len(rows), 0))
                self.assertEqual(fault_of((*rows, more, "*")), (len(rows), 0))

    def test_rows_left_out_put_in_twice_and_turned_round(self):
        first, second, third, fourth = "++*- a", "|`*- b", "`+- b", " `- a"
        for rows, fault in [
            ((second, third, fourth), (0, 0)),
            ((first, third, fourth), (1, 0)),
            ((first, second, fourth), (2, 0)),
            ((first, first, second, third, fourth), (1, 0)),
            ((first, second, second, third, fourth), (2, 0)),
            ((first, second, third, third, fourth), (3, 0)),
            ((first, second, third, fourth, fourth), (4, 0)),
            ((second, first, third, fourth), (0, 0)),
            ((first, third, second, fourth), (1, 0)),
            ((first, second, fourth, third), (2, 0)),
            ((fourth, third, second, first), (0, 0)),
            ((first, second, "", third, fourth), (2, 0)),
        ]:
            with self.subTest(rows=rows):
                self.assertEqual(fault_of(rows), fault)
        self.assertEqual(fault_of(("++- c", "`- a", "|`- b")), (1, 0))
        self.assertEqual(fault_of(("+++- d", "||`- c", "`- a")), (2, 0))
        self.assertEqual(fault_of(("+*+- d", "| `- c", "| `- b", "`- a")), (2, 0))

    def test_signs_before_a_further_row(self):
        for rows, fault in [
            (("+- b", "|- a"), (1, 0)),
            (("+- b", " - a"), (1, 0)),
            (("+- b", "- a"), (1, 0)),
            (("+- b", ""), (1, 0)),
            (("+- b", "`"), (1, 1)),
            (("+- b", "` a"), (1, 1)),
            (("+- b", "``- a"), (1, 1)),
            (("+- b", "`|- a"), (1, 1)),
            (("*+- b", "`- a"), (1, 0)),
            (("*+- b", " |- a"), (1, 1)),
            (("*+- b", "  `- a"), (1, 1)),
            (("*+- b", " "), (1, 1)),
            (("-+- b", "`- a"), (1, 0)),
            (("+-+- c", "|`- b", "`- a"), (1, 1)),
            (("++- c", "``- b", "`- a"), (1, 0)),
            (("++- c", " `- b", "`- a"), (1, 0)),
            (("++- c", "|", "`- a"), (1, 1)),
            (("++- c", "||- b", "`- a"), (1, 1)),
            (("++- c", "|`- b", "|- a"), (2, 0)),
            (("++- c", "|`- b", " `- a"), (2, 0)),
            (("+- c", "`+- b", "|`- a"), (2, 0)),
            (("+- c", "`+- b", "``- a"), (2, 0)),
            (("+- c", "`+- b", "  - a"), (2, 1)),
        ]:
            with self.subTest(rows=rows):
                self.assertEqual(fault_of(rows), fault)

    def test_the_first_of_several(self):
        self.assertEqual(fault_of(("++- c", "|`- bb", "|- a")), (1, 5))
        self.assertEqual(fault_of(("+- A", "|- a")), (0, 3))
        self.assertEqual(fault_of(("+- b", "`- aa", "- a")), (1, 4))

    def test_other_signs(self):
        for sign in "xXAZ09%.~>()\n\t'\u00e4\u0661":
            if not "a" <= sign <= "z":
                self.assertEqual(fault_of(("- " + sign,)), (0, 2))
            if sign not in "09":
                self.assertEqual(fault_of(("- a" + sign,)), (0, 3))
            self.assertEqual(fault_of((sign + "- a",)), (0, 0))
            self.assertEqual(fault_of(("+- b", "`" + sign + "- a")), (1, 1))

    def test_all_short_rows(self):
        for many in range(5):
            for signs in itertools.product("-*+|` a0", repeat=many):
                rows = ("".join(signs),)
                self.assertEqual(fault_of(rows), expected_fault(rows), rows)

    def test_drawings_with_one_sign_left_out_put_in_or_exchanged(self):
        many = 0
        for _, rows in DRAWINGS:
            if len(rows) > 3:
                continue
            for row, signs in enumerate(rows):
                changed = [signs[:at] + signs[at + 1:] for at in range(len(signs))]
                changed += [signs[:at] for at in range(len(signs))]
                for sign in "-*+|` b1":
                    changed += [signs[:at] + sign + signs[at:] for at in range(len(signs) + 1)]
                    changed += [signs[:at] + sign + signs[at + 1:] for at in range(len(signs))]
                for other in changed:
                    wrong = rows[:row] + (other,) + rows[row + 1:]
                    if "".join(wrong).count("+") > 2:
                        continue
                    self.assertEqual(fault_of(wrong), expected_fault(wrong), wrong)
                    many += fault_of(wrong) is not None
        self.assertGreater(many, 1000)

    def test_its_class(self):
        with self.assertRaises(DrawingFault) as caught:
            read_drawing(("- A",))
        self.assertIsInstance(caught.exception, ScriptError)
        self.assertIsInstance(caught.exception, ValueError)
        self.assertNotIsInstance(caught.exception, (TextFault, ProofFault, BookFault))
        self.assertEqual((caught.exception.row, caught.exception.column), (0, 2))


if __name__ == "__main__":
    unittest.main()
