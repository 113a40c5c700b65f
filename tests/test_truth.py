"""Promises c2, q1 and the interface under conceptscript/truth.py."""

import random
import unittest

from conceptscript.truth import alike, falsifying, is_true
from samples import A, A0, B, B0, C, D, TOWERS, Z9, chance_formula, cond, no
from walks import PATTERNS, all_rows, names_in, truth

PEIRCE = cond(cond(cond(A, B), A), A)


def false_just_under(rows):
    """A formula with the letters a, b and c that is false just under these rows."""
    whole = cond(A, B, C, A)
    for row in rows:
        signed = [letter if letter[1] in row else no(letter) for letter in (A, B, C)]
        whole = no(cond(whole, no(cond(*signed[:2], no(signed[2])))))
    return whole


class TestIsTrue(unittest.TestCase):
    def test_small_ones(self):
        for formula, row, value in [
            (A, (), False),
            (A, ("a",), True),
            (A, ("b",), False),
            (A0, ("a",), False),
            (A, ("a0",), False),
            (Z9, ("z9",), True),
            (no(A), (), True),
            (no(A), ("a",), False),
            (no(no(A)), ("a",), True),
            (cond(A, B), (), True),
            (cond(A, B), ("a",), False),
            (cond(A, B), ("b",), True),
            (cond(A, B), ("a", "b"), True),
            (cond(A, B, C), ("a", "b"), False),
            (cond(cond(A, B), C), (), False),
            (no(cond(A, no(B))), ("a", "b"), True),
            (no(cond(A, no(B))), ("a",), False),
        ]:
            with self.subTest(formula=formula, row=row):
                self.assertIs(is_true(formula, row), value)

    def test_names_that_the_formula_does_not_have(self):
        for formula, row in [(A, ("a",)), (no(A), ()), (cond(A, B), ("b",)), (cond(A0, B), ("a0",))]:
            more = tuple(sorted((*row, "c", "d5", "z")))
            self.assertIs(is_true(formula, more), is_true(formula, row))
        self.assertIs(is_true(A, ("b", "c")), False)
        self.assertIs(is_true(cond(A, B), ("a", "c")), False)
        self.assertIs(is_true(cond(A, B), ("c",)), True)

    def test_against_a_walk(self):
        rng = random.Random(31)
        names = ["a", "b", "b0", "c", "z9"]
        rows = all_rows([*names, "d"])
        for _ in range(200):
            formula = chance_formula(rng, rng.randint(1, 40), names)
            for row in rng.sample(rows, 5):
                self.assertIs(is_true(formula, row), truth(formula, row))

    def test_up_to_the_bounds(self):
        self.assertIs(is_true(TOWERS[0], ("a",)), False)
        self.assertIs(is_true(TOWERS[0], ()), True)
        rng = random.Random(32)
        names = [small + digit for small in "abcdefghij" for digit in ("", "0", "1", "2")]
        for _ in range(20):
            formula = chance_formula(rng, 400, names)
            row = tuple(sorted(rng.sample(names, 20)))
            self.assertIs(is_true(formula, row), truth(formula, row))


class TestFalsifying(unittest.TestCase):
    def test_small_ones(self):
        for formula, row in [
            (A, ()),
            (no(A), ("a",)),
            (cond(A, B), ("a",)),
            (cond(A, A), None),
            (cond(B, A), ("b",)),
            (no(cond(A, A)), ()),
            (cond(no(A), no(B)), ("b",)),
            (cond(A, B, C), ("a", "b")),
            (cond(B, no(A)), ("a", "b")),
            (cond(A, no(B), C), ("a",)),
            (cond(no(A0), A), ()),
            (cond(no(C), no(B)), ("b",)),
            (PEIRCE, None),
            (cond(no(no(A)), A), None),
        ]:
            with self.subTest(formula=formula):
                self.assertEqual(falsifying(formula), row)

    def test_the_first_row_as_tuples_are_ordered(self):
        for rows in (
            [("b",), ("a", "c")],
            [("c",), ("b",), ("a", "b", "c")],
            [("a", "b"), ("a",)],
            [("a", "b", "c"), ("a", "c")],
            [("b", "c"), ("b",)],
            [("c",), ()],
        ):
            self.assertEqual(falsifying(false_just_under(rows)), min(rows))
            self.assertEqual(alike(false_just_under(rows), cond(A, B, C, A)), min(rows))
        self.assertEqual(falsifying(false_just_under([("b",), ("a", "c")])), ("a", "c"))

    def test_against_all_rows(self):
        rng = random.Random(33)
        found = []
        for _ in range(400):
            formula = chance_formula(rng, rng.randint(1, 25), rng.sample(["a", "a0", "b", "c", "d", "e9"], 4))
            rows = [row for row in all_rows(names_in(formula)) if not truth(formula, row)]
            self.assertEqual(falsifying(formula), rows[0] if rows else None)
            found.append(falsifying(formula))
        self.assertIn(None, found)

    def test_axioms_are_always_true(self):
        for formula in PATTERNS.values():
            self.assertIsNone(falsifying(formula))

    def test_up_to_the_bounds(self):
        rng = random.Random(34)
        formula = chance_formula(rng, 199, list("abcdef"))
        self.assertIsNone(falsifying(cond(formula, formula)))
        self.assertEqual(falsifying(cond(*[("letter", name) for name in "abcdef"], no(A))), tuple("abcdef"))


class TestAlike(unittest.TestCase):
    def test_small_ones(self):
        for formula, other, row in [
            (A, A, None),
            (A, no(no(A)), None),
            (A, no(A), ()),
            (A, B, ("a",)),
            (B, A, ("a",)),
            (B, C, ("b",)),
            (cond(A, B), cond(no(B), no(A)), None),
            (cond(A, B), cond(B, A), ("a",)),
            (cond(A, A), cond(B, B), None),
            (cond(A, B, C), cond(B, A, C), None),
            (A, cond(cond(A, B), A), None),
            (cond(A, B), B, ()),
            (no(cond(A, no(B))), A, ("a",)),
            (cond(no(A), B), cond(no(B), A), None),
            (cond(A, A), cond(no(A), B), ()),
            (no(cond(A, A)), no(cond(D, D)), None),
            (A, A0, ("a",)),
            (B0, cond(cond(B0, Z9), B0), None),
        ]:
            with self.subTest(formula=formula, other=other):
                self.assertEqual(alike(formula, other), row)
                self.assertEqual(alike(other, formula), row)

    def test_letters_of_both(self):
        # They differ only where c, which the first one does not have, is true, or d, which the second one does not.
        self.assertEqual(alike(cond(A, A), cond(C, A)), ("c",))
        self.assertEqual(alike(cond(D, A), cond(C, C)), ("c", "d"))
        self.assertEqual(alike(cond(D, B), cond(A, B)), ("a",))

    def test_against_all_rows(self):
        rng = random.Random(35)
        found = []
        for _ in range(400):
            formula = chance_formula(rng, rng.randint(1, 9), rng.sample(["a", "a0", "b", "c"], 2))
            other = chance_formula(rng, rng.randint(1, 9), rng.sample(["a", "a0", "b", "c"], 2))
            rows = [row for row in all_rows(names_in(formula) | names_in(other))
                    if truth(formula, row) != truth(other, row)]
            self.assertEqual(alike(formula, other), rows[0] if rows else None)
            found.append(alike(formula, other))
        self.assertIn(None, found)

    def test_up_to_the_bounds(self):
        rng = random.Random(36)
        formula = chance_formula(rng, 199, list("abcdef"))
        other = chance_formula(rng, 199, list("ghijkl"))
        self.assertIsNone(alike(cond(formula, formula), cond(other, other)))
        last = cond(*[("letter", name) for name in "abcdef"], no(A))
        self.assertEqual(alike(last, cond(other, other)), tuple("abcdef"))


if __name__ == "__main__":
    unittest.main()
