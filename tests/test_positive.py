"""Promise v1 for the interface under conceptscript/positive.py."""

import random
import time
import unittest

from conceptscript.formulas import put
from conceptscript.positive import decide
from conceptscript.texts import read
from samples import A, B, C, chance_formula, cond, formulas_up_to, no
from walks import PATTERNS, all_rows, is_right_paper, names_in, truth

BOTH = ("positive", "minimal")

# Formulas with the strengths of both that prove them.
FORMULAS = [
    ("a", ""),
    ("~a", ""),
    ("a -> b", ""),
    ("a -> a", "positive minimal"),
    ("~a -> ~a", "positive minimal"),
    ("a -> b -> a", "positive minimal"),
    ("a -> ~a -> a", "positive minimal"),
    ("(a -> b) -> (b -> c) -> a -> c", "positive minimal"),
    ("(a -> b -> c) -> b -> a -> c", "positive minimal"),
    ("(a -> a -> b) -> a -> b", "positive minimal"),
    ("((((a -> b) -> a) -> a) -> b) -> b", "positive minimal"),
    ("(((a -> b) -> b) -> b) -> a -> b", "positive minimal"),
    ("((a -> ~b) -> c) -> ~b -> c", "positive minimal"),
    ("((a -> b) -> a) -> a", ""),
    ("((a -> b) -> b) -> (b -> a) -> a", ""),
    ("(((a -> b) -> a) -> b) -> b", ""),
    ("(a -> c) -> ((a -> b) -> c) -> c", ""),
    ("~~a -> a", ""),
    ("a -> ~~a", "minimal"),
    ("(a -> ~a) -> ~a", "minimal"),
    ("(~a -> a) -> a", ""),
    ("(~a -> a) -> ~~a", "minimal"),
    ("(a -> b) -> ~b -> ~a", "minimal"),
    ("(~b -> ~a) -> a -> b", ""),
    ("(~b -> ~a) -> a -> ~~b", "minimal"),
    ("(a -> ~b) -> b -> ~a", "minimal"),
    ("(~a -> b) -> ~b -> a", ""),
    ("a -> ~a -> b", ""),
    ("a -> ~a -> ~b", "minimal"),
    ("~a -> a -> ~b", "minimal"),
    ("~~~a -> ~a", "minimal"),
    ("~(a -> b) -> ~b", "minimal"),
    ("~(a -> b) -> a", ""),
    ("~(a -> b) -> ~~a", ""),
    ("a -> ~b -> ~(a -> b)", "minimal"),
    ("~~(a -> b) -> ~~a -> ~~b", "minimal"),
    ("(~~a -> ~~b) -> ~~(a -> b)", ""),
    ("~~(~~a -> a)", ""),
    ("~~(((a -> b) -> a) -> a)", ""),
    ("~(a -> a) -> b", ""),
    ("~(a -> a) -> ~b", "minimal"),
    ("~(a -> a) -> ~(b -> b)", "minimal"),
    ("~a -> ~(b -> b) -> ~c", "minimal"),
    ("~~(a -> a)", "minimal"),
    ("~(~(a -> a) -> ~a) -> b", ""),
    ("(a -> b) -> (~a -> b) -> ~~b", "minimal"),
    ("(a -> ~b) -> (~a -> ~b) -> ~b", "minimal"),
    ("(a -> b) -> (~a -> b) -> b", ""),
]

# Those of many made by chance that took the prover longest.
HARD = [
    "~~~~(a -> ~a) -> ~(~a -> a)",
    "~~~~~~~a -> ~(~a -> a)",
    "~~~~~~~~((~a -> a) -> a)",
    "(a -> ~a) -> ~~~(~~~a -> a)",
    "(~(~a -> a) -> ~(a -> ~a)) -> ~a",
    "~~(~~b -> ~~c -> ~~~a)",
    "((((b -> a) -> b) -> ~b -> b) -> a) -> a",
    "((b -> b) -> b) -> (b -> a) -> ~b -> a",
    "(c -> (b -> ~a) -> ~a) -> ~b -> c",
    "((((a -> b) -> c) -> a) -> b) -> c",
    "((((~a -> b) -> a) -> b) -> a) -> ~a",
]


class TestDecide(unittest.TestCase):
    def assert_decided(self, formula, strength, proved=None):
        paper = decide(formula, strength)
        self.assertEqual(len(paper), 2)
        self.assertTrue(is_right_paper(paper, (), formula, strength), (formula, strength, paper))
        if proved is not None:
            self.assertEqual(paper[0], "proof" if proved else "counter")
        return paper[0] == "proof"

    def test_formulas_with_and_without_a_proof(self):
        for text, strengths in FORMULAS:
            for strength in BOTH:
                with self.subTest(text=text, strength=strength):
                    self.assert_decided(read(text), strength, strength in strengths.split())

    def test_instances_of_the_axioms(self):
        rng = random.Random(81)
        for k, pattern in PATTERNS.items():
            for _ in range(20):
                table = {name: chance_formula(rng, rng.randint(1, 3), ["a", "b", "c"]) for name in "abcd"}
                formula = put(pattern, table)
                if k in (1, 2, 3):
                    self.assert_decided(formula, "positive", True)
                if k in (1, 2, 3, 4, 6):
                    self.assert_decided(formula, "minimal", True)
            table = {"a": A, "b": B, "c": C, "d": C}
            self.assert_decided(put(pattern, table), "positive", k in (1, 2, 3))
            self.assert_decided(put(pattern, table), "minimal", k != 5)

    def test_all_small_formulas(self):
        found = {}
        for formula in formulas_up_to(7, (A, B)):
            positive, minimal = (self.assert_decided(formula, strength) for strength in BOTH)
            always = all(truth(formula, row) for row in all_rows(names_in(formula)))
            self.assertLessEqual((positive, minimal), (minimal, always))
            found[(positive, minimal, always)] = found.get((positive, minimal, always), 0) + 1
        self.assertEqual(sorted(found), [(False, False, False), (False, False, True), (False, True, True),
                                         (True, True, True)])

    def test_up_to_the_bounds_by_chance(self):
        rng = random.Random(82)
        many = {True: 0, False: 0}
        for _ in range(1500):
            formula = chance_formula(rng, rng.randint(10, 14), ["a", "b", "c"][:rng.randint(1, 3)])
            for strength in BOTH:
                many[self.assert_decided(formula, strength)] += 1
        self.assertGreater(min(many.values()), 300)

    def test_conditionals_alone_are_decided_alike(self):
        rng = random.Random(83)
        letters = {"a": A, "b": B, "c": C}
        for _ in range(500):
            formula = A
            for _ in range(rng.randint(1, 6)):
                other = rng.choice([letters[rng.choice("abc")], cond(*rng.choices([A, B, C], k=2))])
                formula = rng.choice([cond(formula, other), cond(other, formula)])
            self.assertEqual(self.assert_decided(formula, "positive"), self.assert_decided(formula, "minimal"))

    def test_for_positive_a_negation_is_as_a_letter(self):
        for text in ("((~a -> b) -> ~a) -> ~a", "~a -> b -> ~a", "(a -> ~a) -> ~a", "~(a -> b) -> ~(a -> b)",
                     "((~~a -> ~a) -> a) -> ~a -> a"):
            formula = read(text)
            table = {no(no(A)): read("z0"), no(A): read("z1"), no(cond(A, B)): read("z2")}
            self.assertEqual(self.assert_decided(formula, "positive"),
                             self.assert_decided(exchanged(formula, table), "positive"))

    def test_letters_of_proofs_are_those_of_the_formula(self):
        for text in ("(z9 -> ~z9) -> ~z9", "z9 -> ~z9 -> ~b0"):
            kind, proof = decide(read(text), "minimal")
            self.assertEqual(kind, "proof")
            self.assertLessEqual(set().union(*[names_in(formula) for formula, _ in proof]), {"z9", "b0"})

    def test_time(self):
        for text in HARD:
            for strength in BOTH:
                with self.subTest(text=text, strength=strength):
                    start = time.perf_counter()
                    self.assert_decided(read(text), strength)
                    self.assertLess(time.perf_counter() - start, 2)


def exchanged(formula, table):
    """The formula with other formulas for the parts that the table has."""
    if formula in table:
        return table[formula]
    if formula[0] == "letter":
        return formula
    return (formula[0], *[exchanged(part, table) for part in formula[1:]])


if __name__ == "__main__":
    unittest.main()
