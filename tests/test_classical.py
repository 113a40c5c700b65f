"""Promise v1 for the interface under conceptscript/classical.py."""

import random
import time
import unittest

from conceptscript.classical import prove
from conceptscript.formulas import put
from conceptscript.texts import read
from samples import A, B, C, chance_formula, cond, formulas_up_to, no
from walks import PATTERNS, all_rows, is_proof, names_in, truth

# True under all rows, and of forms that no axiom has.
ALWAYS_TRUE = [
    "a -> a",
    "~a -> ~a",
    "((a -> b) -> a) -> a",
    "(~a -> a) -> a",
    "(a -> ~a) -> ~a",
    "a -> ~a -> b",
    "~a -> a -> b",
    "~(a -> b) -> a",
    "~(a -> b) -> ~b",
    "a -> ~b -> ~(a -> b)",
    "(a -> b) -> (~a -> b) -> b",
    "(~b -> ~a) -> a -> b",
    "(~a -> b) -> ~b -> a",
    "(a -> ~b) -> b -> ~a",
    "(a -> b) -> (b -> c) -> a -> c",
    "(a -> a -> b) -> a -> b",
    "((a -> b) -> b) -> (b -> a) -> a",
    "((a -> b) -> c) -> (a -> c) -> c",
    "((a -> b) -> c) -> (c -> a) -> a",
    "~~~~a -> a",
    "a -> ~~~~a",
    "~~(a -> a)",
    "~(~a -> ~~~a) -> a",
    "~(a -> ~(b -> a))-> b -> b",
    "(a -> b) -> ~(a -> ~(b -> c)) -> c",
    "(a -> ~(b -> ~c)) -> a -> c",
    "~((a -> b) -> ~(b -> a)) -> a -> b",
]

# Those of many made by chance that took the prover longest.
HARD = [
    "~((b -> ~~a) -> a) -> ~(~b -> a)",
    "~((~a -> b -> a) -> b -> a) -> ~b",
    "~((~~a -> b) -> b) -> ~(~b -> a)",
    "(a -> c) -> (~a -> (c -> b) -> a) -> c",
    "~a -> ((b -> c) -> a) -> (c -> b) -> b",
    "~~(~b -> ~~b) -> ~(b -> ~b)",
    "((a -> b) -> c) -> (~a -> c -> a) -> a",
    "~((~~~~(c -> b) -> c) -> c) -> a",
]


class TestProve(unittest.TestCase):
    def assert_proved(self, formula):
        proof = prove(formula)
        self.assertIsNotNone(proof, formula)
        self.assertTrue(is_proof(proof, (), formula, (1, 2, 3, 4, 5, 6)), formula)

    def test_always_true(self):
        for text in ALWAYS_TRUE:
            with self.subTest(text=text):
                self.assert_proved(read(text))

    def test_instances_of_each_axiom(self):
        rng = random.Random(71)
        for pattern in PATTERNS.values():
            for table in ({"d": A}, {"a": B, "b": A, "c": no(B), "d": C}, {name: A for name in "abcd"},
                          {"a": C, "b": no(A), "c": A, "d": no(no(B))}):
                self.assert_proved(put(pattern, table))
            for _ in range(10):
                table = {name: chance_formula(rng, rng.randint(1, 3), ["a", "b", "c"]) for name in "abcd"}
                self.assert_proved(put(pattern, table))

    def test_formulas_that_some_row_makes_false(self):
        for text in ("a", "~a", "a -> b", "~(a -> a)", "a -> ~a", "~a -> a", "(a -> b) -> b -> a", "(a -> b) -> a",
                     "~~~(a -> a)", "((a -> b) -> a) -> b", "(a -> b) -> ~a -> ~b", "a -> b -> c", "~a -> ~~a",
                     "(a -> c) -> (b -> c) -> c", "~(a -> b) -> b"):
            with self.subTest(text=text):
                self.assertIsNone(prove(read(text)))

    def test_all_small_formulas(self):
        many = 0
        for formula in formulas_up_to(7, (A, B)):
            if all(truth(formula, row) for row in all_rows(names_in(formula))):
                self.assert_proved(formula)
                many += 1
            else:
                self.assertIsNone(prove(formula))
        self.assertGreater(many, 100)

    def test_up_to_the_bounds_by_chance(self):
        rng = random.Random(72)
        many = 0
        for _ in range(3000):
            formula = chance_formula(rng, rng.randint(10, 14), ["a", "b", "c"])
            if all(truth(formula, row) for row in all_rows(names_in(formula))):
                self.assert_proved(formula)
                many += 1
            else:
                self.assertIsNone(prove(formula))
        self.assertGreater(many, 300)

    def test_other_letters(self):
        self.assert_proved(read("((z9 -> b0) -> z9) -> z9"))
        proof = prove(read("(z9 -> ~z9) -> ~z9"))
        self.assertEqual(set().union(*[names_in(formula) for formula, _ in proof]), {"z9"})

    def test_time(self):
        for text in HARD:
            with self.subTest(text=text):
                start = time.perf_counter()
                self.assert_proved(read(text))
                self.assertLess(time.perf_counter() - start, 2)


if __name__ == "__main__":
    unittest.main()
