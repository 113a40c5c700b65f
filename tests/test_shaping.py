"""Promises p2, p3 and the interface under conceptscript/shaping.py."""

import random
import unittest

from conceptscript.formulas import put
from conceptscript.shaping import discharged, joined, replaced, trimmed
from samples import A, A0, B, C, CHAIN, D, HYPOTHESIS, NAMES, SELF, chance_formula, chance_proof, cond, no
from walks import PATTERNS, is_proof, is_right_line


# b from a -> a -> b and a, which stands in two lines.
TWICE = (
    (A, HYPOTHESIS),
    (cond(A, A, B), HYPOTHESIS),
    (cond(A, B), ("detach", 1, 0)),
    (A, HYPOTHESIS),
    (B, ("detach", 2, 3)),
)


def assumed_in(proof):
    return list(dict.fromkeys(formula for formula, why in proof if why == HYPOTHESIS))


def axioms_in(proof):
    return {why[1] for _, why in proof if why[0] == "axiom"}


def needed_formulas(proof):
    """The formulas that p2 calls needed, by asking for one after the other."""
    first = {}
    for formula, why in proof:
        first.setdefault(formula, why)
    found = {}
    waiting = [proof[-1][0]]
    while waiting:
        formula = waiting.pop()
        if formula not in found:
            found[formula] = True
            waiting.extend(proof[line][0] for line in first[formula][1:] if first[formula][0] == "detach")
    return [formula for formula in first if formula in found]


class TestCase(unittest.TestCase):
    def assert_proves(self, proof, assumed, formula, axioms):
        self.assertTrue(is_proof(proof, assumed, formula, axioms), proof)


class TestTrimmed(TestCase):
    def test_nothing_to_trim(self):
        for proof in (SELF, CHAIN, ((A, HYPOTHESIS),), ((PATTERNS[5], ("axiom", 5)),)):
            self.assertEqual(trimmed(proof), proof)

    def test_lines_that_nothing_needs(self):
        proof = (
            (D, HYPOTHESIS),
            (cond(A, B), HYPOTHESIS),
            (PATTERNS[6], ("axiom", 6)),
            (cond(D, A), HYPOTHESIS),
            (A, HYPOTHESIS),
            (A0, HYPOTHESIS),
            (B, ("detach", 1, 4)),
        )
        self.assertEqual(trimmed(proof), ((cond(A, B), HYPOTHESIS), (A, HYPOTHESIS), (B, ("detach", 0, 1))))

    def test_lines_behind_the_first_one_with_the_formula_proved(self):
        self.assertEqual(trimmed((*CHAIN, (D, HYPOTHESIS), (C, ("detach", 3, 2)))), CHAIN)
        self.assertEqual(trimmed((*CHAIN, (D, HYPOTHESIS), (C, HYPOTHESIS))), CHAIN)
        self.assertEqual(trimmed((*SELF, *SELF)), SELF)
        self.assertEqual(trimmed(((A, HYPOTHESIS), *CHAIN[:2], (A, HYPOTHESIS))), ((A, HYPOTHESIS),))

    def test_the_first_line_of_a_formula_is_meant(self):
        proof = (
            (A, HYPOTHESIS),
            (cond(A, B), HYPOTHESIS),
            (B, ("detach", 1, 0)),
            (A, HYPOTHESIS),
            (cond(B, A, C), HYPOTHESIS),
            (B, HYPOTHESIS),
            (cond(A, C), ("detach", 4, 5)),
            (C, ("detach", 6, 3)),
        )
        self.assertEqual(trimmed(proof), (
            (A, HYPOTHESIS),
            (cond(A, B), HYPOTHESIS),
            (B, ("detach", 1, 0)),
            (cond(B, A, C), HYPOTHESIS),
            (cond(A, C), ("detach", 3, 2)),
            (C, ("detach", 4, 0)),
        ))

    def test_a_hypothesis_stands_before_a_proof_of_it_and_behind_it(self):
        itself = cond(A, A)
        before = ((itself, HYPOTHESIS), *[(formula, moved(why, 1)) for formula, why in SELF])
        self.assertEqual(trimmed(before), ((itself, HYPOTHESIS),))
        self.assertEqual(trimmed((*SELF, (itself, HYPOTHESIS))), SELF)
        axiom = (PATTERNS[1], ("axiom", 1))
        assumed = (PATTERNS[1], HYPOTHESIS)
        self.assertEqual(trimmed((axiom, assumed)), (axiom,))
        self.assertEqual(trimmed((assumed, axiom)), (assumed,))
        self.assertEqual(trimmed((assumed, (A, HYPOTHESIS), axiom, (cond(B, A), ("detach", 2, 1)))),
                         (assumed, (A, HYPOTHESIS), (cond(B, A), ("detach", 0, 1))))

    def test_by_chance(self):
        rng = random.Random(51)
        shorter = 0
        for _ in range(400):
            proof = chance_proof(rng, rng.randint(1, 25), ["a", "b"])
            less = trimmed(proof)
            self.assertIsInstance(less, tuple)
            self.assertEqual([formula for formula, _ in less], needed_formulas(proof))
            self.assert_proves(less, assumed_in(proof), proof[-1][0], axioms_in(proof))
            self.assertEqual(trimmed(less), less)
            shorter += len(less) < len(proof)
        self.assertGreater(shorter, 100)

    def test_up_to_the_bounds(self):
        rng = random.Random(52)
        formulas = [chance_formula(rng, 400, NAMES[:40]) for _ in range(1000)]
        proof = tuple((formula, HYPOTHESIS) for formula in formulas * 4)
        self.assertEqual(trimmed(proof), ((formulas[-1], HYPOTHESIS),))


def moved(why, many):
    return ("detach", why[1] + many, why[2] + many) if why[0] == "detach" else why


class TestJoined(TestCase):
    def test_a_hypothesis(self):
        other = ((cond(D, A), HYPOTHESIS), (D, HYPOTHESIS), (A, ("detach", 0, 1)))
        self.assertEqual(joined(CHAIN, other), (
            (cond(D, A), HYPOTHESIS),
            (D, HYPOTHESIS),
            (A, ("detach", 0, 1)),
            (cond(A, B), HYPOTHESIS),
            (B, ("detach", 3, 2)),
            (cond(B, C), HYPOTHESIS),
            (C, ("detach", 5, 4)),
        ))

    def test_a_hypothesis_that_stands_several_times(self):
        other = ((cond(C, A), HYPOTHESIS), (C, HYPOTHESIS), (A, ("detach", 0, 1)))
        self.assertEqual(joined(TWICE, other), (
            *other,
            (cond(A, A, B), HYPOTHESIS),
            (cond(A, B), ("detach", 3, 2)),
            (B, ("detach", 4, 2)),
        ))

    def test_the_last_line(self):
        other = ((D, HYPOTHESIS), *[(formula, moved(why, 1)) for formula, why in CHAIN])
        self.assertEqual(joined(((C, HYPOTHESIS),), other), CHAIN)
        self.assertEqual(joined(((A, HYPOTHESIS), (B, HYPOTHESIS), (C, HYPOTHESIS)), other), CHAIN)
        self.assertEqual(joined(((C, HYPOTHESIS), (A, HYPOTHESIS), (C, HYPOTHESIS)), other), CHAIN)

    def test_none_of_the_hypotheses(self):
        self.assertEqual(joined(CHAIN, SELF), CHAIN)
        self.assertEqual(joined(CHAIN, ((D, HYPOTHESIS),)), CHAIN)
        # What is an axiom in the first proof stays one, though its first line is the second proof's hypothesis.
        axiom = (PATTERNS[1], ("axiom", 1))
        self.assertEqual(joined((axiom,), ((PATTERNS[1], HYPOTHESIS),)), ((PATTERNS[1], HYPOTHESIS),))
        self.assertEqual(joined(((PATTERNS[1], HYPOTHESIS),), (axiom,)), (axiom,))

    def test_a_hypothesis_of_the_second_one(self):
        self.assertEqual(joined(CHAIN, ((A, HYPOTHESIS),)), (
            (A, HYPOTHESIS),
            (cond(A, B), HYPOTHESIS),
            (B, ("detach", 1, 0)),
            (cond(B, C), HYPOTHESIS),
            (C, ("detach", 3, 2)),
        ))
        other = ((A, HYPOTHESIS), (cond(A, A), HYPOTHESIS), (A, ("detach", 1, 0)))
        self.assertEqual(joined(CHAIN, other)[0], (A, HYPOTHESIS))
        self.assertEqual(len(joined(CHAIN, other)), 5)

    def test_a_formula_of_both_is_taken_from_the_second_one(self):
        other = ((cond(A, B), HYPOTHESIS), (A, HYPOTHESIS), (B, ("detach", 0, 1)))
        proof = (
            (B, HYPOTHESIS),
            (cond(B, A), HYPOTHESIS),
            (A, ("detach", 1, 0)),
            (cond(A, B, C), HYPOTHESIS),
            (cond(B, C), ("detach", 3, 2)),
            (C, ("detach", 4, 0)),
        )
        self.assertEqual(joined(proof, other), (
            *other,
            (cond(A, B, C), HYPOTHESIS),
            (cond(B, C), ("detach", 3, 1)),
            (C, ("detach", 4, 2)),
        ))

    def test_by_chance(self):
        rng = random.Random(53)
        many = 0
        for _ in range(400):
            proof = chance_proof(rng, rng.randint(1, 15), ["a", "b"])
            other = chance_proof(rng, rng.randint(1, 15), ["a", "b"])
            if assumed_in(proof) and rng.random() < 0.7:
                wanted = rng.choice(assumed_in(proof))
                last = other[-1][0]
                other += ((cond(last, wanted), HYPOTHESIS), (wanted, ("detach", len(other), len(other) - 1)))
            held = other[-1][0]
            many += held in assumed_in(proof)
            assumed = [part for part in assumed_in(proof) if part != held] + assumed_in(other)
            whole = joined(proof, other)
            self.assert_proves(whole, assumed, proof[-1][0], axioms_in(proof) | axioms_in(other))
            self.assertEqual(trimmed(whole), whole)
        self.assertGreater(many, 100)


class TestReplaced(TestCase):
    def test_in_all_lines(self):
        self.assertEqual(replaced(CHAIN, {"a": no(C), "c": A}), (
            (cond(no(C), B), HYPOTHESIS),
            (no(C), HYPOTHESIS),
            (B, ("detach", 0, 1)),
            (cond(B, A), HYPOTHESIS),
            (A, ("detach", 3, 2)),
        ))
        self.assertEqual(replaced(CHAIN, {}), CHAIN)
        self.assertEqual(replaced(CHAIN, {"d": A}), CHAIN)

    def test_no_line_is_left_out(self):
        proof = ((A, HYPOTHESIS), (B, HYPOTHESIS), (A, HYPOTHESIS))
        self.assertEqual(replaced(proof, {"b": A}), ((A, HYPOTHESIS),) * 3)

    def test_by_chance(self):
        rng = random.Random(54)
        for _ in range(200):
            proof = chance_proof(rng, rng.randint(1, 15), ["a", "b"])
            table = {name: chance_formula(rng, rng.randint(1, 5), ["a", "b", "c"]) for name in "abc"}
            other = replaced(proof, table)
            self.assertEqual(other, tuple((put(formula, table), why) for formula, why in proof))
            self.assertTrue(all(is_right_line(other, line) for line in range(len(other))))


class TestDischarged(TestCase):
    def assert_discharged(self, proof, formula):
        whole = discharged(proof, formula)
        assumed = [part for part in assumed_in(proof) if part != formula]
        self.assert_proves(whole, assumed, cond(formula, proof[-1][0]), axioms_in(proof) | {1, 2})
        self.assertLessEqual(len(whole), 5 * len(proof))

    def test_a_hypothesis_that_is_used(self):
        for formula in (A, cond(A, B), cond(B, C)):
            self.assert_discharged(CHAIN, formula)

    def test_a_hypothesis_that_is_used_several_times(self):
        proof = (
            *TWICE,
            (cond(B, A, C), HYPOTHESIS),
            (cond(A, C), ("detach", 5, 4)),
            (C, ("detach", 6, 0)),
        )
        for formula in (A, cond(A, A, B), cond(B, A, C)):
            self.assert_discharged(proof, formula)

    def test_the_formula_that_is_proved(self):
        self.assert_discharged(((A, HYPOTHESIS),), A)
        self.assert_discharged(((B, HYPOTHESIS), (A, HYPOTHESIS)), A)
        self.assert_discharged(CHAIN, C)
        self.assert_discharged(((A, HYPOTHESIS), (cond(A, A), HYPOTHESIS), (A, ("detach", 1, 0))), A)
        self.assert_discharged(SELF, cond(A, A))

    def test_a_formula_that_is_no_hypothesis(self):
        for proof in (CHAIN, SELF, ((A, HYPOTHESIS),), ((PATTERNS[5], ("axiom", 5)),)):
            for formula in (D, no(A), B, cond(A, A, A)):
                self.assert_discharged(proof, formula)

    def test_a_formula_that_is_an_axiom_too(self):
        formula = PATTERNS[5]
        for proof in [
            ((formula, ("axiom", 5)),),
            ((formula, HYPOTHESIS),),
            ((formula, ("axiom", 5)), (cond(formula, B), HYPOTHESIS), (formula, HYPOTHESIS), (B, ("detach", 1, 2))),
            ((formula, HYPOTHESIS), (cond(formula, B), HYPOTHESIS), (formula, ("axiom", 5)), (B, ("detach", 1, 2))),
        ]:
            self.assert_discharged(proof, formula)

    def test_one_after_the_other(self):
        proof = CHAIN
        for formula in (A, cond(B, C), cond(A, B)):
            self.assert_discharged(proof, formula)
            proof = discharged(proof, formula)
        self.assert_proves(proof, (), cond(cond(A, B), cond(B, C), A, C), (1, 2))

    def test_by_chance(self):
        rng = random.Random(55)
        for _ in range(600):
            proof = chance_proof(rng, rng.randint(1, 20), ["a", "b"])
            formulas = [formula for formula, _ in proof]
            for formula in (rng.choice(formulas), proof[-1][0], chance_formula(rng, rng.randint(1, 3), ["a", "b"])):
                self.assert_discharged(proof, formula)
            for formula in assumed_in(trimmed(proof)):
                self.assert_discharged(proof, formula)
                self.assert_discharged(trimmed(proof), formula)

    def test_lines_that_all_rest_on_it(self):
        # Each formula comes from the one before it; the hypothesis is the first one, or the last conditional.
        lines = [(A, HYPOTHESIS)]
        for many in range(30):
            formula = lines[-1][0]
            lines.append((cond(formula, no(formula)), HYPOTHESIS))
            lines.append((no(formula), ("detach", len(lines) - 1, len(lines) - 2)))
        for formula in (A, lines[1][0], lines[-2][0]):
            self.assert_discharged(tuple(lines), formula)


if __name__ == "__main__":
    unittest.main()
