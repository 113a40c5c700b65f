"""Promises c4, p1 and the interface under conceptscript/proofs.py."""

import random
import unittest

from conceptscript.errors import BookFault, DrawingFault, ProofFault, ScriptError, TextFault
from conceptscript.proofs import axioms_of, check, hypotheses, proved, tree_size
from samples import A, B, C, CHAIN, D, HYPOTHESIS, NAMES, SELF, chance_formula, chance_proof, cond, no
from walks import PATTERNS, is_instance, is_right_line


def fault_of(proof):
    """The line and the reason of the fault of a proof, or None."""
    try:
        check(proof)
    except ProofFault as fault:
        return fault.line, fault.reason
    return None


def reason_of(proof, line):
    """The reason of the first fault of a line, straight from the words of p1, or None."""
    formula, why = proof[line]
    if why[0] == "axiom":
        found = [(why[1] not in PATTERNS, "unknown axiom"),
                 (not is_instance(PATTERNS.get(why[1], no(no(formula))), formula, {}), "no instance")]
    elif why[0] == "hypothesis":
        found = []
    else:
        i, j = why[1:]
        if not (i in range(line) and j in range(line)):
            return "line not before"
        whole = proof[i][0]
        found = [(whole[0] != "if", "no conditional"),
                 (whole[1] != proof[j][0], "other condition"),
                 (whole[-1] != formula, "other consequence")]
    return next((reason for is_so, reason in found if is_so), None)


def first_fault(proof):
    """The first fault of a proof, straight from the words of p1, or None."""
    if not proof:
        return 0, "empty"
    faults = [(line, reason_of(proof, line)) for line in range(len(proof))]
    return next(((line, reason) for line, reason in faults if reason is not None), None)


# Lines whose first fault is the reason, behind CHAIN; in most of them later reasons hold, too.
FAULTY_LINES = [
    ((A, ("axiom", 0)), "unknown axiom"),
    ((A, ("axiom", 7)), "unknown axiom"),
    ((A, ("axiom", -1)), "unknown axiom"),
    ((cond(A, B, A), ("axiom", 28)), "unknown axiom"),
    ((A, ("axiom", 1)), "no instance"),
    ((cond(A, B, B), ("axiom", 1)), "no instance"),
    ((cond(A, B, A), ("axiom", 2)), "no instance"),
    ((cond(A, no(no(A))), ("axiom", 5)), "no instance"),
    ((cond(no(no(A)), A), ("axiom", 6)), "no instance"),
    ((cond(cond(A, B), no(A), no(B)), ("axiom", 4)), "no instance"),
    ((D, ("detach", 5, 1)), "line not before"),
    ((D, ("detach", 0, 5)), "line not before"),
    ((D, ("detach", 6, 1)), "line not before"),
    ((D, ("detach", 0, 6)), "line not before"),
    ((D, ("detach", 1, 900)), "line not before"),
    ((D, ("detach", -1, 1)), "line not before"),
    ((D, ("detach", 0, -1)), "line not before"),
    ((B, ("detach", 0, -4)), "line not before"),
    ((B, ("detach", -5, 1)), "line not before"),
    ((D, ("detach", 1, 0)), "no conditional"),
    ((B, ("detach", 1, 1)), "no conditional"),
    ((D, ("detach", 0, 0)), "other condition"),
    ((B, ("detach", 0, 2)), "other condition"),
    ((C, ("detach", 3, 1)), "other condition"),
    ((D, ("detach", 0, 1)), "other consequence"),
    ((A, ("detach", 0, 1)), "other consequence"),
    ((cond(A, B), ("detach", 0, 1)), "other consequence"),
]


class TestCheck(unittest.TestCase):
    def test_right_proofs(self):
        for proof in (SELF, CHAIN, ((A, HYPOTHESIS),), ((A, HYPOTHESIS), (A, HYPOTHESIS))):
            self.assertIsNone(check(proof))
        for k, formula in PATTERNS.items():
            self.assertIsNone(check(((formula, ("axiom", k)),)))

    def test_a_line_can_be_named_in_both_places_and_again(self):
        self.assertIsNone(check((*CHAIN, (B, ("detach", 0, 1)), (C, ("detach", 3, 5)), (C, ("detach", 3, 2)))))

    def test_right_proofs_by_chance(self):
        rng = random.Random(41)
        for _ in range(200):
            proof = chance_proof(rng, rng.randint(1, 25), ["a", "b", "c"])
            self.assertTrue(all(is_right_line(proof, line) for line in range(len(proof))))
            self.assertIsNone(check(proof))

    def test_each_reason_as_the_first_of_its_line_and_of_the_proof(self):
        for line, reason in FAULTY_LINES:
            with self.subTest(line=line):
                self.assertEqual(reason_of((*CHAIN, line), 5), reason)
                self.assertEqual(fault_of((*CHAIN, line)), (5, reason))
                self.assertEqual(fault_of((*CHAIN, line, (C, HYPOTHESIS))), (5, reason))
                for other, _ in FAULTY_LINES:
                    self.assertEqual(fault_of((*CHAIN, line, other)), (5, reason))

    def test_in_the_first_line(self):
        self.assertEqual(fault_of(((A, ("axiom", 9)),)), (0, "unknown axiom"))
        self.assertEqual(fault_of(((A, ("axiom", 3)),)), (0, "no instance"))
        self.assertEqual(fault_of(((A, ("detach", 0, 0)),)), (0, "line not before"))
        self.assertEqual(fault_of(((A, ("detach", -1, -1)),)), (0, "line not before"))

    def test_empty(self):
        self.assertEqual(fault_of(()), (0, "empty"))

    def test_changed_proofs(self):
        rng = random.Random(42)
        found = {}
        for _ in range(1500):
            proof = list(chance_proof(rng, rng.randint(3, 12), ["a", "b"]))
            for _ in range(rng.randint(1, 2)):
                line = rng.randrange(len(proof))
                formula, why = proof[line]
                proof[line] = rng.choice([
                    (chance_formula(rng, rng.randint(1, 4), ["a", "b"]), why),
                    (formula, ("detach", rng.randint(-2, len(proof)), rng.randint(-2, len(proof)))),
                    (formula, ("detach", rng.randrange(line + 1), rng.randrange(line + 1))),
                    (formula, ("axiom", rng.randint(-1, 8))),
                ])
            self.assertEqual(fault_of(tuple(proof)), first_fault(tuple(proof)))
            fault = fault_of(tuple(proof))
            found[fault and fault[1]] = True
        self.assertEqual(len(found), 7)

    def test_its_class(self):
        with self.assertRaises(ProofFault) as caught:
            check(())
        self.assertIsInstance(caught.exception, ScriptError)
        self.assertIsInstance(caught.exception, ValueError)
        self.assertNotIsInstance(caught.exception, (TextFault, DrawingFault, BookFault))
        self.assertEqual((caught.exception.line, caught.exception.reason), (0, "empty"))

    def test_up_to_the_bounds(self):
        rng = random.Random(43)
        large = chance_formula(rng, 397, NAMES[:40])
        proof = [(large, HYPOTHESIS), (cond(large, A), HYPOTHESIS)]
        proof += [(A, ("detach", 1, 0))] * 3998
        self.assertIsNone(check(tuple(proof)))
        self.assertEqual(fault_of((*proof[:-1], (B, ("detach", 1, 0)))), (3999, "other consequence"))


class TestReadings(unittest.TestCase):
    def test_proved(self):
        self.assertEqual(proved(SELF), cond(A, A))
        self.assertEqual(proved(CHAIN), C)
        self.assertEqual(proved(((A, HYPOTHESIS),)), A)

    def test_hypotheses_in_the_order_of_their_first_lines_as_such(self):
        self.assertEqual(hypotheses(SELF), ())
        self.assertEqual(hypotheses(CHAIN), (cond(A, B), A, cond(B, C)))
        proof = (
            (cond(A, B, A), ("axiom", 1)),
            (B, HYPOTHESIS),
            (A, HYPOTHESIS),
            (B, HYPOTHESIS),
            (cond(A, B, A), HYPOTHESIS),
            (cond(B, A), ("detach", 0, 2)),
            (A, HYPOTHESIS),
            (cond(B, A), HYPOTHESIS),
        )
        self.assertEqual(hypotheses(proof), (B, A, cond(A, B, A), cond(B, A)))

    def test_axioms_of_rising(self):
        self.assertEqual(axioms_of(SELF), (1, 2))
        self.assertEqual(axioms_of(CHAIN), ())
        proof = tuple((PATTERNS[k], ("axiom", k)) for k in (5, 3, 6, 3, 1, 5))
        self.assertEqual(axioms_of(proof), (1, 3, 5, 6))

    def test_tree_size(self):
        self.assertEqual(tree_size(((A, HYPOTHESIS),)), 1)
        self.assertEqual(tree_size(((cond(A, B, A), ("axiom", 1)),)), 1)
        self.assertEqual(tree_size(CHAIN), 5)
        self.assertEqual(tree_size(SELF), 5)
        self.assertEqual(tree_size((*SELF, (A, HYPOTHESIS))), 1)
        twice = (
            (A, HYPOTHESIS),
            (cond(A, A, B), HYPOTHESIS),
            (cond(A, B), ("detach", 1, 0)),
            (B, ("detach", 2, 0)),
        )
        self.assertEqual(tree_size(twice), 5)

    def test_tree_size_of_lines_that_are_named_twice(self):
        # Each second line rests on the one before it twice: by itself and by the conditional to it.
        lines = [(A, HYPOTHESIS)]
        for many in range(20):
            formula = lines[-1][0]
            place = len(lines) - 1
            lines.append((cond(formula, formula, B), HYPOTHESIS))
            lines.append((cond(formula, B), ("detach", place + 1, place)))
            lines.append((B, ("detach", place + 2, place)))
        sizes = 1
        for _ in range(20):
            sizes = 1 + (1 + 1 + sizes) + sizes
        self.assertEqual(tree_size(tuple(lines)), sizes)

    def test_by_chance(self):
        rng = random.Random(44)
        for _ in range(100):
            proof = chance_proof(rng, rng.randint(1, 20), ["a", "b"])
            assumed = [formula for formula, why in proof if why == HYPOTHESIS]
            self.assertEqual(hypotheses(proof), tuple(dict.fromkeys(assumed)))
            self.assertEqual(axioms_of(proof), tuple(sorted({why[1] for _, why in proof if why[0] == "axiom"})))
            self.assertEqual(proved(proof), proof[-1][0])
            self.assertEqual(tree_size(proof), size_from(proof, len(proof) - 1))

    def test_up_to_the_bounds(self):
        rng = random.Random(45)
        formulas = [chance_formula(rng, 400, NAMES[:40]) for _ in range(400)]
        proof = tuple((formula, HYPOTHESIS) for formula in formulas * 10)
        self.assertEqual(hypotheses(proof), tuple(dict.fromkeys(formulas)))


def size_from(proof, line):
    """How many axioms, hypotheses and detachments a line has as a tree."""
    why = proof[line][1]
    return 1 + sum(size_from(proof, other) for other in why[1:]) if why[0] == "detach" else 1


if __name__ == "__main__":
    unittest.main()
