"""Promises c9, g2 and the interface under conceptscript/steps.py."""

import random
import time
import unittest

from conceptscript.formulas import match, size
from conceptscript.proofs import axioms_of, check, hypotheses, proved
from conceptscript.steps import general, length, proof_of, steps_of
from conceptscript.texts import read, write
from samples import A, B, C, SELF, chance_formula, cond, no
from walks import PATTERNS, in_text_order, is_proof, most_general, named_in_order

ONE, TWO, THREE, FOUR, FIVE, SIX = (("axiom", k) for k in range(1, 7))


def detach(first, *others):
    """The steps that detach, one behind the other, what the others prove."""
    for other in others:
        first = ("detach", first, other)
    return first


ITSELF = detach(TWO, ONE, ONE)


def behind(first, second):
    """The steps that go from a condition by the first to what the second makes of it."""
    return detach(TWO, detach(ONE, second), first)


# Steps and what they prove; None for nothing.
GENERAL = [
    (ONE, "a -> b -> a"),
    (TWO, "(a -> b -> c) -> (a -> b) -> a -> c"),
    (THREE, "(a -> b -> c) -> b -> a -> c"),
    (FOUR, "(a -> b) -> ~b -> ~a"),
    (FIVE, "~~a -> a"),
    (SIX, "a -> ~~a"),
    (detach(ONE, ONE), "a -> b -> c -> b"),
    (detach(ONE, ONE, ONE), "a -> b -> a"),
    (detach(TWO, ONE), "(a -> b) -> a -> a"),
    (ITSELF, "a -> a"),
    (detach(ITSELF, FIVE), "~~a -> a"),
    (detach(THREE, ITSELF), "a -> (a -> b) -> b"),
    (detach(FOUR, FIVE), "~a -> ~~~a"),
    (detach(FOUR, SIX), "~~~a -> ~a"),
    (behind(SIX, SIX), "a -> ~~~~a"),
    (behind(FIVE, SIX), "~~a -> ~~a"),
    (behind(SIX, FIVE), "a -> a"),
    (behind(behind(SIX, SIX), behind(SIX, SIX)), "a -> ~~~~~~~~a"),
    (detach(SIX, ONE), "~~(a -> b -> a)"),
    (detach(FIVE, detach(SIX, ONE)), "a -> b -> a"),
    (detach(THREE, THREE), "a -> (b -> a -> c) -> b -> c"),
    (detach(TWO, TWO), "((a -> b -> c) -> a -> b) -> (a -> b -> c) -> a -> c"),
    (detach(FIVE, FIVE), None),
    (detach(FIVE, ONE), None),
    (detach(FOUR, THREE, ITSELF), None),
    (detach(ONE, detach(FIVE, SIX)), None),
    (detach(detach(FIVE, SIX), ONE), None),
    (detach(detach(SIX, ONE), ONE), None),
    (detach(TWO, ITSELF), "((a -> b) -> a) -> (a -> b) -> b"),
    (detach(TWO, ITSELF, ITSELF), None),
    (detach(THREE, ITSELF, ONE, ONE), "a -> b -> c -> b"),
    (detach(TWO, detach(THREE, ITSELF)), "(a -> a -> b) -> a -> b"),
    (detach(THREE, TWO), "(a -> b) -> (a -> b -> c) -> a -> c"),
    (("axiom", 7), None),
    (("axiom", 0), None),
    (detach(ONE, ("axiom", 7)), None),
]


def chance_steps(rng, many):
    """Steps of a length of at most many, an odd number."""
    if many == 1:
        return ("axiom", rng.randint(1, 6))
    first = 2 * rng.randint(0, (many - 3) // 2) + 1
    return ("detach", chance_steps(rng, first), chance_steps(rng, many - 1 - first))


def grown_steps(rng, many):
    """Steps of a length of at most many that prove something, out of lesser ones that do."""
    known = [ONE, TWO, THREE, FOUR, FIVE, SIX, ITSELF]
    for _ in range(60):
        step = ("detach", rng.choice(known), rng.choice(known))
        if len(flat(step)) <= many and step not in known and general(step) is not None:
            known.append(step)
    return known[7:]


def flat(steps):
    """All steps within the steps."""
    return [steps, *[step for part in steps[1:] if steps[0] == "detach" for step in flat(part)]]


def axioms_in(steps):
    return {step[1] for step in flat(steps) if step[0] == "axiom"}


class TestGeneral(unittest.TestCase):
    def test_cases(self):
        for steps, text in GENERAL:
            with self.subTest(steps=steps):
                formula = general(steps)
                self.assertEqual(None if formula is None else write(formula), text)

    def test_the_example_of_the_document(self):
        steps = ("detach", ("detach", ("axiom", 2), ("axiom", 1)), ("axiom", 1))
        self.assertEqual(write(general(steps)), "a -> a")

    def test_the_same_steps_several_times_bring_letters_of_their_own(self):
        twice = behind(ITSELF, ITSELF)
        self.assertEqual(write(general(twice)), "a -> a")
        self.assertEqual(write(general(detach(ONE, detach(ONE, detach(ONE, ONE))))), "a -> b -> c -> d -> e -> d")

    def test_many_letters(self):
        steps = ONE
        for _ in range(19):
            steps = detach(ONE, steps)
        self.assertEqual(length(steps), 39)
        self.assertEqual(in_text_order(general(steps)), list("abcdefghijklmnopqrstut"))

    def test_against_a_walk(self):
        rng = random.Random(41)
        found = {True: 0, False: 0}
        for _ in range(3000):
            steps = chance_steps(rng, rng.choice((1, 3, 5, 7, 9, 11)))
            formula = general(steps)
            self.assertEqual(formula, most_general(steps), steps)
            found[formula is not None] += 1
        self.assertGreater(min(found.values()), 500)

    def test_against_a_walk_up_to_the_bounds(self):
        rng = random.Random(42)
        many = []
        for _ in range(25):
            for steps in grown_steps(rng, 39):
                formula = general(steps)
                self.assertEqual(formula, most_general(steps), steps)
                many.append(length(steps))
        self.assertGreater(max(many), 35)
        self.assertGreater(len(many), 300)

    def test_what_steps_prove_has_no_other_letters_than_its_text(self):
        for steps, text in GENERAL:
            if text is not None:
                names = list(dict.fromkeys(in_text_order(general(steps))))
                self.assertEqual(names, sorted(names))

    def test_formulas_that_double(self):
        once = detach(TWO, detach(THREE, ITSELF))
        self.assertEqual(write(general(once)), "(a -> a -> b) -> a -> b")
        twice = detach(THREE, once)
        self.assertEqual(write(general(twice)), "a -> (a -> a -> b) -> b")
        steps = behind(twice, behind(twice, SIX))
        self.assertEqual(length(steps), 33)
        start = time.perf_counter()
        formula = general(steps)
        self.assertLess(time.perf_counter() - start, 1)
        pair = read("(a -> a -> b) -> b")
        wanted = cond(A, no(no(cond(cond(pair, pair, C), C))))
        self.assertEqual(formula, named_in_order(wanted))


class TestLength(unittest.TestCase):
    def test_cases(self):
        for steps, many in [(ONE, 1), (detach(ONE, ONE), 3), (ITSELF, 5), (detach(ITSELF, ITSELF), 11),
                            (behind(ITSELF, FIVE), 5 + 6), (detach(FIVE, FIVE), 3), (("axiom", 9), 1)]:
            self.assertEqual(length(steps), many)

    def test_against_a_walk(self):
        rng = random.Random(43)
        for _ in range(200):
            steps = chance_steps(rng, rng.choice((1, 3, 11, 39, 399)))
            self.assertEqual(length(steps), len(flat(steps)))


class TestProofOf(unittest.TestCase):
    def assert_proof(self, steps):
        proof = proof_of(steps)
        formula = general(steps)
        if formula is None:
            self.assertIsNone(proof)
            return None
        self.assertTrue(is_proof(proof, (), formula, axioms_in(steps)), steps)
        self.assertIsNone(check(proof))
        self.assertEqual(proved(proof), formula)
        self.assertEqual(hypotheses(proof), ())
        self.assertLessEqual(set(axioms_of(proof)), axioms_in(steps))
        formulas = [part for part, _ in proof]
        self.assertEqual(len(set(formulas)), len(formulas), steps)
        self.assertLessEqual(len(proof), length(steps))
        return proof

    def test_cases(self):
        for steps, _ in GENERAL:
            with self.subTest(steps=steps):
                self.assert_proof(steps)

    def test_an_axiom(self):
        for k in range(1, 7):
            self.assertEqual(self.assert_proof(("axiom", k)), ((general(("axiom", k)), ("axiom", k)),))

    def test_itself(self):
        proof = self.assert_proof(ITSELF)
        self.assertEqual([why for _, why in proof],
                         [("axiom", 2), ("axiom", 1), ("detach", 0, 1), ("axiom", 1), ("detach", 2, 3)])
        self.assertEqual(proof[3][0][1], A)

    def test_a_line_whose_formula_is_there_already(self):
        # What is proved stands in the second line; the last step would prove it again.
        steps = detach(ONE, SIX, ONE)
        proof = self.assert_proof(steps)
        self.assertEqual(proved(proof), cond(A, no(no(A))))
        self.assertEqual(len(proof), 2)
        # Steps that stand twice with the same formula have their lines once.
        steps = ONE
        for _ in range(8):
            steps = detach(FIVE, detach(SIX, steps))
            proof = self.assert_proof(steps)
            self.assertEqual([why for _, why in proof], [FIVE, SIX, ONE])
        self.assertEqual(len(self.assert_proof(detach(SIX, steps))), 4)

    def test_lines_that_nothing_needs_may_stay(self):
        proof = self.assert_proof(detach(ITSELF, detach(FIVE, detach(SIX, FOUR))))
        self.assertEqual(proved(proof), general(FOUR))

    def test_by_chance(self):
        rng = random.Random(44)
        many = 0
        for _ in range(3000):
            many += self.assert_proof(chance_steps(rng, rng.choice((3, 5, 7, 9, 11, 13)))) is not None
        self.assertGreater(many, 500)

    def test_up_to_the_bounds(self):
        rng = random.Random(45)
        for _ in range(10):
            for steps in grown_steps(rng, 39):
                if max(size(most_general(step)) for step in flat(steps)) <= 200:
                    self.assert_proof(steps)


class TestStepsOf(unittest.TestCase):
    def test_the_tree_of_the_last_line(self):
        self.assertEqual(steps_of(SELF), ITSELF)
        self.assertEqual(steps_of(SELF[:3]), detach(TWO, ONE))
        self.assertEqual(steps_of(SELF[:1]), TWO)
        self.assertEqual(steps_of(SELF[:4]), ONE)

    def test_lines_that_are_named_twice(self):
        itself = cond(A, A)
        proof = SELF + ((cond(itself, A, itself), ("axiom", 1)), (cond(A, itself), ("detach", 5, 4)))
        self.assertIsNone(check(proof))
        self.assertEqual(steps_of(proof), detach(ONE, ITSELF))
        proof += ((cond(cond(A, itself), itself, A, itself), ("axiom", 1)), (cond(itself, A, itself), ("detach", 7, 6)),
                  (cond(A, itself), ("detach", 8, 4)))
        self.assertIsNone(check(proof))
        self.assertEqual(steps_of(proof), detach(ONE, detach(ONE, ITSELF), ITSELF))
        self.assertIsNotNone(match(general(steps_of(proof)), proved(proof)))

    def test_lines_that_nothing_needs(self):
        proof = ((cond(A, B, A), ("axiom", 1)), (cond(no(no(C)), C), ("axiom", 5)), (cond(C, no(no(C))), ("axiom", 6)))
        self.assertEqual(steps_of(proof), SIX)
        self.assertEqual(steps_of(proof[:2]), FIVE)

    def test_the_lines_that_are_named_and_no_others_with_their_formulas(self):
        # The last line names the second of two lines with one formula.
        six = cond(A, no(no(A)))
        proof = (
            (six, ("axiom", 6)),
            (cond(six, cond(B, C, B), six), ("axiom", 1)),
            (cond(cond(B, C, B), six), ("detach", 1, 0)),
            (cond(B, C, B), ("axiom", 1)),
            (six, ("detach", 2, 3)),
            (cond(six, no(no(six))), ("axiom", 6)),
            (no(no(six)), ("detach", 5, 4)),
        )
        self.assertIsNone(check(proof))
        self.assertEqual(steps_of(proof), detach(SIX, detach(ONE, SIX, ONE)))

    def test_what_is_proved_is_an_instance_of_what_the_steps_prove(self):
        rng = random.Random(46)
        many = 0
        while many < 200:
            proof = chance_plain_proof(rng, rng.randint(3, 14))
            check(proof)
            steps = steps_of(proof)
            if 1 < length(steps) <= 39:
                many += 1
                formula = general(steps)
                self.assertEqual(formula, most_general(steps))
                self.assertIsNotNone(match(formula, proved(proof)))
                self.assertLessEqual(length(steps_of(proof_of(steps))), length(steps))

    def test_a_great_tree(self):
        # Each time ~~ is put before a formula and taken away again; the last line names all.
        six = cond(A, no(no(A)))
        lines = [(six, ("axiom", 6))]
        for _ in range(66):
            last = len(lines) - 1
            lines += [(cond(six, no(no(six))), ("axiom", 6)), (no(no(six)), ("detach", last + 1, last)),
                      (cond(no(no(six)), six), ("axiom", 5)), (six, ("detach", last + 3, last + 2))]
        check(tuple(lines))
        wanted = SIX
        for _ in range(66):
            wanted = detach(FIVE, detach(SIX, wanted))
        self.assertEqual(length(wanted), 265)
        self.assertEqual(steps_of(tuple(lines)), wanted)
        self.assertEqual(length(steps_of(tuple(lines))), 265)


def chance_plain_proof(rng, many):
    """A right proof without hypotheses."""
    lines = []
    while len(lines) < many:
        formulas = [formula for formula, _ in lines]
        ready = [(i, j) for i, whole in enumerate(formulas) for j, part in enumerate(formulas)
                 if whole[0] == "if" and whole[1] == part]
        if ready and rng.random() < 0.6:
            i, j = rng.choice(ready)
            lines.append((formulas[i][2], ("detach", i, j)))
            continue
        k = rng.randint(1, 6)
        worth = [rng.choice(formulas) if formulas and rng.random() < 0.5 else
                 chance_formula(rng, rng.randint(1, 3), ["a", "b"]) for _ in range(4)]
        table = dict(zip("abcd", worth))
        if formulas and k in (2, 3) and rng.random() < 0.8:
            # An instance whose condition is there, if it has the form for it.
            for formula in formulas:
                found = match(PATTERNS[k][1], formula)
                if found is not None:
                    table |= found
        formula = walked(PATTERNS[k], table)
        if size(formula) <= 100:
            lines.append((formula, ("axiom", k)))
    return tuple(lines)


def walked(pattern, table):
    if pattern[0] == "letter":
        return table[pattern[1]]
    return (pattern[0], *[walked(part, table) for part in pattern[1:]])


if __name__ == "__main__":
    unittest.main()
