"""Promises s1, s2, s3 and the interface under conceptscript/sequents.py."""

import random
import time
import unittest

from conceptscript.proofs import check, hypotheses, proved
from conceptscript.sequents import (
    decide_sequent, formula_of, has_cut, is_sequent_proof, nodes, sequents_of, without_cuts,
)
from conceptscript.texts import read, write
from samples import A, A0, B, B0, C, CHAIN, D, HYPOTHESIS, SELF, Z9, chance_axiom, chance_formula, chance_proof
from samples import cond, formulas_up_to, no, tower
from walks import PATTERNS, first_breaking, is_right_sequent_proof, kinds_in, put_for, truth, with_one


def side(text):
    """The side of a sequent with these formulas."""
    return tuple(sorted({read(part) for part in text.split(";") if part.strip()}))


def start(left, right, formula):
    return ("start", left, right, formula, ())


# Right proofs of each kind, with and without other formulas.
IF_AB = cond(A, B)
PROOFS = [
    start((A,), (A,), A),
    start((A, B), (A, C), A),
    start((IF_AB, A), (IF_AB, no(A)), IF_AB),
    start((A, B), (A, B), B),
    ("not left", (A, no(A)), (), no(A), (start((A,), (A,), A),)),
    ("not right", (), (A, no(A)), no(A), (start((A,), (A,), A),)),
    ("not left", (A, no(A)), (A,), no(A), (start((A,), (A,), A),)),
    ("not right", (A,), (A, no(A)), no(A), (start((A,), (A,), A),)),
    ("if right", (), (cond(A, A),), cond(A, A), (start((A,), (A,), A),)),
    ("if right", (A, B), (IF_AB,), IF_AB, (start((A, B), (B,), B),)),
    ("if left", (IF_AB, A), (B,), IF_AB, (start((A,), (A, B), A), start((A, B), (B,), B))),
    ("if left", (IF_AB, A, B), (A, B), IF_AB, (start((A, B), (A, B), A), start((A, B), (A, B), A))),
    ("cut", (A,), (A,), B, (start((A,), (A, B), A), start((A, B), (A,), A))),
    ("cut", (A,), (A,), A, (start((A,), (A,), A), start((A,), (A,), A))),
    ("cut", (A,), (B, no(no(A))), A, (
        start((A,), (A, B, no(no(A))), A),
        ("not right", (A,), (B, no(no(A))), no(no(A)), (
            ("not left", (A, no(A)), (B,), no(A), (start((A,), (A, B), A),)),
        )),
    )),
    ("cut", (), (cond(A, A),), cond(B, B), (
        ("if right", (), (cond(A, A), cond(B, B)), cond(A, A), (
            ("if right", (A,), (cond(B, B), A), cond(B, B), (start((A, B), (A, B), A),)),
        )),
        ("if right", (cond(B, B),), (cond(A, A),), cond(A, A), (start((cond(B, B), A), (A,), A),)),
    )),
]

# What is taken out, and put in again by another way, stands there.
PROOFS.append(("if left", (cond(A, no(A)), A), (), cond(A, no(A)), (
    start((A,), (A,), A),
    ("not left", (A, no(A)), (), no(A), (start((A,), (A,), A),)),
)))

# What is no proof; each is but for one thing.
WRONG = [
    # A part too many or too few.
    ("start", (A,), (A,), A, (start((A,), (A,), A),)),
    ("not left", (A, no(A)), (), no(A), ()),
    ("not left", (A, no(A)), (), no(A), (start((A,), (A,), A), start((A,), (A,), A))),
    ("if left", (IF_AB, A), (B,), IF_AB, (start((A,), (A, B), A),)),
    ("if left", (IF_AB, A), (B,), IF_AB, (start((A, B), (B,), B),)),
    ("if left", (IF_AB, A), (B,), IF_AB, (start((A,), (A, B), A), start((A, B), (B,), B), start((A, B), (B,), B))),
    ("if right", (), (cond(A, A),), cond(A, A), ()),
    ("cut", (A,), (A,), B, (start((A,), (A, B), A),)),
    ("cut", (A,), (A,), B, ()),
    # A part of another sequent, or both in another order.
    ("not left", (A, no(A)), (), no(A), (start((A, no(A)), (A,), A),)),
    ("not left", (A, no(A)), (), no(A), (start((A,), (A, B), A),)),
    ("not right", (), (A, no(A)), no(A), (start((A,), (A, no(A)), A),)),
    ("if left", (IF_AB, A), (B,), IF_AB, (start((A, B), (B,), B), start((A,), (A, B), A))),
    ("if left", (IF_AB, A), (B,), IF_AB, (start((IF_AB, A), (A, B), A), start((A, B), (B,), B))),
    ("if left", (IF_AB, A), (B,), IF_AB, (start((A,), (A, B), A), start((IF_AB, A, B), (B,), B))),
    ("if left", (IF_AB, A), (B,), IF_AB, (start((A,), (A,), A), start((A, B), (B,), B))),
    ("if right", (), (cond(A, A),), cond(A, A), (start((A,), (cond(A, A), A), A),)),
    ("if right", (A, B), (IF_AB,), IF_AB, (start((B,), (B,), B),)),
    ("cut", (A,), (A,), B, (start((A, B), (A,), A), start((A,), (A, B), A))),
    ("cut", (A,), (A,), B, (start((A,), (A,), A), start((A, B), (A,), A))),
    ("cut", (A,), (A,), B, (start((A,), (A, C), A), start((A, C), (A,), A))),
    # What is put in stands there already, but the part has it taken out, or the other way round.
    ("not left", (A, no(A)), (A,), no(A), (start((A,), (), A),)),
    ("if right", (A, B), (IF_AB,), IF_AB, (start((A, B), (IF_AB, B), B),)),
    # A part that is itself no proof.
    ("not left", (A, no(A)), (), no(A), (start((A,), (A,), B),)),
    ("not left", (B, no(A)), (), no(A), (start((B,), (A,), A),)),
    ("cut", (A,), (A,), B, (start((A,), (A, B), B), start((A, B), (A,), A))),
    ("cut", (A,), (A,), B, (start((A,), (A, B), A), start((A, B), (A,), B))),
    # A formula that does not stand there, stands on the other side or is of another kind.
    start((A,), (A,), B),
    start((A,), (B,), A),
    start((A,), (B,), B),
    start((), (), A),
    ("not left", (A,), (), no(A), (start((A,), (A,), A),)),
    ("not left", (A,), (no(A),), no(A), (start((A,), (A, no(A)), A),)),
    ("not left", (A, no(A)), (), A, (start((A,), (A,), A),)),
    ("not left", (A, no(A)), (), no(B), (start((A,), (A,), A),)),
    ("not right", (no(A),), (A,), no(A), (start((A, no(A)), (A,), A),)),
    ("not right", (), (A, no(A)), A, (start((A,), (A,), A),)),
    ("if right", (cond(A, A),), (), cond(A, A), (start((cond(A, A), A), (A,), A),)),
    ("if left", (A,), (IF_AB, B), IF_AB, (start((A,), (IF_AB, A, B), A), start((A, B), (IF_AB, B), B))),
    ("if left", (A, no(A)), (), no(A), (start((A,), (A,), A),)),
    ("if right", (), (A, no(A)), no(A), (start((A,), (A,), A),)),
    ("not right", (), (cond(A, A),), cond(A, A), (start((A,), (A,), A),)),
    # Other kinds.
    ("stop", (A,), (A,), A, ()),
    ("if", (), (cond(A, A),), cond(A, A), (start((A,), (A,), A),)),
    ("not", (A, no(A)), (), no(A), (start((A,), (A,), A),)),
    ("", (A,), (A,), A, ()),
    # Sides that do not rise or have a formula twice.
    start((B, A), (A,), A),
    start((A,), (no(A), A), A),
    start((A, IF_AB), (A,), A),
    start((A, A), (A,), A),
    start((A,), (A, A), A),
    ("not left", (no(A), A), (), no(A), (start((A,), (A,), A),)),
    ("cut", (A,), (A,), B, (start((A,), (B, A), A), start((A, B), (A,), A))),
    # No formulas on the sides, or none in the cut.
    start(("a",), ("a",), "a"),
    start((A, ("letter", "B")), (A,), A),
    start((A,), (A, ("letter", "a10")), A),
    start((("if", A),), (("if", A),), ("if", A)),
    start((A,), (A, ("not", None)), A),
    start((("or", A, B),), (("or", A, B),), ("or", A, B)),
    start((("letter", "a", "b"),), (("letter", "a", "b"),), ("letter", "a", "b")),
    start((1,), (1,), 1),
    start((None,), (None,), None),
]

OTHER_VALUES = [None, 0, 1, True, "start", "", b"start", (), [], {}, 1.5, object(), ("start",), ("start", (), ()), A,
                SELF, (None,) * 5, ("start", None, None, None, None), ("start", (A,), (A,), A), ((),) * 5, [A], {0: A},
                ("cut", (), (), A, (None, None)), "aaaaa", [1, 2, 3, 4, 5], ("start", (A,), (A,), A, (), ())]


def with_value_at(proof, path, worth):
    """The proof with another value at a place within it."""
    if not path:
        return worth
    at, *rest = path
    return proof[:at] + (with_value_at(proof[at], rest, worth),) + proof[at + 1:]


def paths_in(value, path=()):
    """The places of all values within tuples, one within another."""
    yield path
    if isinstance(value, tuple):
        for at, part in enumerate(value):
            yield from paths_in(part, path + (at,))


def chance_sequent(rng, most, names):
    """A sequent with at most 8 formulas of so great a size together."""
    many = rng.randint(1, 8)
    sizes = [rng.randint(1, max(1, most // many)) for _ in range(many)]
    formulas = sorted({chance_formula(rng, size, names) for size in sizes})
    left = tuple(sorted(formula for formula in formulas if rng.random() < 0.5))
    right = tuple(sorted(formula for formula in formulas if formula not in left))
    if left and rng.random() < 0.1:
        right = with_one(right, rng.choice(left))
    return left, right


class TestIsSequentProof(unittest.TestCase):
    def test_right_proofs(self):
        for proof in PROOFS:
            with self.subTest(proof=proof):
                self.assertTrue(is_right_sequent_proof(proof, proof[1], proof[2]))
                self.assertIs(is_sequent_proof(proof), True)

    def test_each_kind_is_there(self):
        self.assertEqual({kind for proof in PROOFS for kind in kinds_in(proof)},
                         {"start", "not left", "not right", "if left", "if right", "cut"})

    def test_wrong_proofs(self):
        for proof in WRONG:
            with self.subTest(proof=proof):
                self.assertIs(is_sequent_proof(proof), False)

    def test_other_values(self):
        for value in OTHER_VALUES:
            with self.subTest(value=value):
                self.assertIs(is_sequent_proof(value), False)

    def test_other_values_at_each_depth(self):
        for proof in PROOFS:
            for path in paths_in(proof):
                for worth in (None, 1, True, "a", "", (), [], {}, ("a",), ("letter", "a", "b"), [A], A, (A,), no(A)):
                    changed = with_value_at(proof, path, worth)
                    with self.subTest(changed=changed):
                        if changed == proof or self.is_another_proof(changed):
                            self.assertIs(is_sequent_proof(changed), True)
                        else:
                            self.assertIs(is_sequent_proof(changed), False)

    def is_another_proof(self, value):
        """Whether a value, whatever it is, has become another right proof by the change."""
        try:
            return is_right_sequent_proof(value, value[1], value[2]) and self.has_right_sides(value)
        except (TypeError, ValueError, IndexError, KeyError):
            return False

    def has_right_sides(self, proof):
        for part in (proof[1], proof[2]):
            if not isinstance(part, tuple) or list(part) != sorted(set(part)):
                return False
        for formula in (*proof[1], *proof[2], proof[3]):
            if read(write(formula)) != formula:
                return False
        return isinstance(proof[4], tuple) and all(isinstance(part, tuple) and self.has_right_sides(part)
                                                   for part in proof[4])

    def test_lists_in_place_of_tuples(self):
        for proof in PROOFS:
            for path in paths_in(proof):
                value = proof
                for at in path:
                    value = value[at]
                if isinstance(value, tuple):
                    self.assertIs(is_sequent_proof(with_value_at(proof, path, list(value))), False)

    def test_the_kinds_changed(self):
        for proof in PROOFS:
            for kind in ("start", "not left", "not right", "if left", "if right", "cut"):
                if kind != proof[0]:
                    changed = (kind,) + proof[1:]
                    self.assertIs(is_sequent_proof(changed), is_right_sequent_proof(changed, *proof[1:3]))

    def test_found_proofs_with_one_formula_changed(self):
        rng = random.Random(61)
        found = {True: 0, False: 0}
        while min(found.values()) < 100:
            left, right = chance_sequent(rng, 20, ["a", "b"])
            kind, proof = decide_sequent(left, right)
            if kind == "proof" and nodes(proof) > 2:
                places = [path for path in paths_in(proof) if path and path[-1] == 3]
                formula = chance_formula(rng, rng.randint(1, 3), ["a", "b"])
                changed = with_value_at(proof, rng.choice(places), formula)
                right_one = is_right_sequent_proof(changed, left, right)
                self.assertIs(is_sequent_proof(changed), right_one)
                found[right_one] += 1

    def test_up_to_the_bounds(self):
        # A chain of cuts with about 100 levels and 4,000 nodes, and great formulas.
        great = tower(60, lambda p: ("if", p, B0))
        proof = start((great,), (great,), great)
        names = [("letter", small + digit) for small in "bcde" for digit in "0123456789"]
        begin = time.perf_counter()
        for name in names:
            proof = self.under_cut(proof, name)
        self.assertIs(is_sequent_proof(proof), True)
        self.assertEqual(nodes(proof), 81)
        wide = start((great,), (great,), great)
        for name in names[:10]:
            wide = ("cut", (great,), (great,), name, (self.put_everywhere(wide, 2, name),
                                                      self.put_everywhere(wide, 1, name)))
        self.assertEqual(nodes(wide), 2047)
        self.assertIs(is_sequent_proof(wide), True)
        self.assertIs(has_cut(wide), True)
        self.assertIs(has_cut(without_cuts(wide)), False)
        self.assertLess(time.perf_counter() - begin, 10)

    def under_cut(self, proof, name):
        _, left, right, _, _ = proof
        return ("cut", left, right, name, (self.put_everywhere(proof, 2, name),
                                           start(with_one(left, name), right, left[-1])))

    def put_everywhere(self, proof, at, formula):
        """The proof with a formula more on a side of all its sequents."""
        proof = proof[:at] + (with_one(proof[at], formula),) + proof[at + 1:]
        return proof[:4] + (tuple(self.put_everywhere(part, at, formula) for part in proof[4]),)


class TestHasCutAndNodes(unittest.TestCase):
    def test_right_proofs(self):
        for proof in PROOFS:
            kinds = kinds_in(proof)
            self.assertIs(has_cut(proof), "cut" in kinds)
            self.assertEqual(nodes(proof), len(kinds))

    def test_a_cut_deep_within(self):
        inner = PROOFS[12]
        outer = ("not right", (), (A, no(A)), no(A), (inner,))
        self.assertIs(is_sequent_proof(outer), True)
        self.assertIs(has_cut(outer), True)
        self.assertEqual(nodes(outer), 4)
        outer = ("if left", (IF_AB, A), (B,), IF_AB, (start((A,), (A, B), A), ("cut", (A, B), (B,), C, (
            start((A, B), (B, C), B), start((A, B, C), (B,), B)))))
        self.assertIs(is_sequent_proof(outer), True)
        self.assertIs(has_cut(outer), True)
        self.assertEqual(nodes(outer), 5)


class TestDecideSequent(unittest.TestCase):
    def assert_decided(self, left, right):
        """That the answer is right; whether it is a proof."""
        kind, worth = decide_sequent(left, right)
        row = first_breaking(left, right)
        if row is not None:
            self.assertEqual((kind, worth), ("row", row), (left, right))
            return False
        self.assertEqual(kind, "proof", (left, right))
        self.assertTrue(is_right_sequent_proof(worth, left, right), (left, right))
        self.assertNotIn("cut", kinds_in(worth))
        self.assertIs(is_sequent_proof(worth), True)
        self.assertIs(has_cut(worth), False)
        self.assertLessEqual(nodes(worth), 4000)
        return True

    def test_the_empty_sequent_and_sides(self):
        self.assertEqual(decide_sequent((), ()), ("row", ()))
        self.assertEqual(decide_sequent((A, Z9), ()), ("row", ("a", "z9")))
        self.assertEqual(decide_sequent((), (A, Z9)), ("row", ()))
        self.assertEqual(decide_sequent((A,), (B,)), ("row", ("a",)))
        self.assertEqual(decide_sequent((), (cond(A, B), no(C))), ("row", ("a", "c")))
        self.assertEqual(decide_sequent((A,), (A,)), ("proof", start((A,), (A,), A)))

    def test_cases(self):
        cases = [
            ("a", "a", True), ("a; b", "b; c", True), ("a", "b", False), ("", "a", False), ("a", "", False),
            ("a; ~a", "", True), ("", "a; ~a", True), ("", "a -> a", True), ("~(a -> a)", "", True),
            ("a -> b; a", "b", True), ("a -> b; b", "a", False), ("a -> b; ~b", "~a", True),
            ("a -> b; b -> c; c -> d", "a -> d", True), ("a -> b; c -> d", "a -> d", False),
            ("", "((a -> b) -> a) -> a", True), ("", "a -> b; b -> a", True), ("", "a -> b; b -> c", True),
            ("(a -> b) -> a", "a", True), ("a -> ~a; ~a -> a", "", True), ("~~a", "a", True), ("a", "~~a", True),
            ("a -> b; ~a -> b", "b", True), ("a -> b -> c", "b -> a -> c", True), ("a -> b", "b -> a", False),
            ("a -> b; a -> ~b; ~a -> b; ~a -> ~b", "", True), ("a -> b; a -> ~b; ~a -> b", "", False),
        ]
        for left, right, wanted in cases:
            with self.subTest(left=left, right=right):
                self.assertIs(self.assert_decided(side(left), side(right)), wanted)

    def test_axioms(self):
        for formula in PATTERNS.values():
            self.assertTrue(self.assert_decided((), (formula,)))
            self.assertTrue(self.assert_decided((no(formula),), ()))
            self.assertFalse(self.assert_decided((formula,), ()))

    def test_all_small_sequents(self):
        formulas = formulas_up_to(4, (A, B))
        for formula in formulas:
            self.assert_decided((formula,), ())
            self.assert_decided((), (formula,))
            for other in formulas:
                self.assert_decided((formula,), (other,))

    def test_by_chance_up_to_the_bounds(self):
        rng = random.Random(62)
        found = {True: 0, False: 0}
        for _ in range(2500):
            left, right = chance_sequent(rng, rng.choice((10, 20, 30, 60)), ["a", "b0", "c"][:rng.randint(1, 3)])
            found[self.assert_decided(left, right)] += 1
        self.assertGreater(min(found.values()), 500)

    def test_time(self):
        # The hardest of many within the bounds, by the number of nodes, and some in which all rows must be looked at.
        three = [cond(p, q, no(r)) for p in (A, no(A)) for q in (B, no(B)) for r in (C, no(C))]
        cases = [
            (tuple(sorted(three)), ()),
            (tuple(sorted(three[:7])), ()),
            ((iff(A, iff(B, C)),), (iff(iff(A, B), C),)),
            ((iff(iff(A, B), C),), (iff(A, iff(B, C)),)),
            (tuple(sorted([iff(A, B), iff(B, C), no(iff(A, C))])), ()),
            (side("a -> a -> ~~(a -> a -> a -> a); ~((~b -> a) -> ~(b -> b -> ~a -> ~b) -> ~a -> ~b) -> b -> ~b;"
                  "~(~(~a -> b) -> b) -> b"), side("(~(a -> a) -> a -> a) -> a")),
            (side("c -> ~(c -> ~~~b -> b) -> b; ~c -> ~c -> ~c -> ~~~~~c -> ~~~~c; ~~~c -> (b -> ~c) -> ~c;"
                  "~~(~~b -> b -> ~~b -> ~b)"), ()),
            (side("a -> ~(~c -> b) -> b; ~~(a -> ~~(~~~b -> c -> b))"),
             side("~~b -> (a -> (b -> a) -> b) -> ~(~c -> c); ~(c -> ((b -> ~(b -> ~~b)) -> a) -> ~(a -> ~~b))")),
            (side("~(b -> b -> a) -> ~a -> ~a -> ~a -> (c -> b) -> b -> a"),
             side("~(a -> ~(a -> ~a) -> b -> ~b); ~(~(~b -> ~~(~~~~~b -> b)) -> ~~(~~~b -> b))")),
        ]
        for left, right in cases:
            with self.subTest(left=left, right=right):
                begin = time.perf_counter()
                self.assert_decided(left, right)
                self.assertLess(time.perf_counter() - begin, 2)


def iff(p, q):
    return no(cond(cond(p, q), no(cond(q, p))))


class TestShortProofs(unittest.TestCase):
    """Not promised, but without it the greater ones would not be found in time."""

    def test_formulas_are_not_taken_apart_needlessly(self):
        rng = random.Random(68)
        for _ in range(200):
            table = {small: chance_formula(rng, rng.randint(1, 60), ["a", "b", "c"]) for small in "abcd"}
            for pattern in PATTERNS.values():
                formula = put_for(pattern, table)
                kind, proof = decide_sequent((), (formula,))
                self.assertEqual(kind, "proof")
                self.assertTrue(is_right_sequent_proof(proof, (), (formula,)))
                self.assertLessEqual(nodes(proof), 20)

    def test_formulas_that_nothing_needs(self):
        # So many that a call within a call for each step would be too deep.
        rng = random.Random(69)
        goal = (cond(A, no(no(A))),)
        for names in ("bc", "bcdefghijklmnopqrstuvwxyz"):
            great = tuple(sorted({no(self.bushy(rng, 398, names)) for _ in range(8)}))
            begin = time.perf_counter()
            proof = without_cuts(("cut", great, goal, A, ()))
            self.assertLess(time.perf_counter() - begin, 5)
            self.assertTrue(is_right_sequent_proof(proof, great, goal))
            self.assertEqual(sorted(kinds_in(proof)), ["if right", "not left", "not right", "start"])

    def bushy(self, rng, size, names):
        """A formula of which each step on the right gives one part alone."""
        if size < 4:
            return ("letter", rng.choice(names))
        first = rng.randint(max(1, (size - 2) // 4), (size - 2) // 2)
        return cond(no(self.bushy(rng, first, names)), self.bushy(rng, size - 2 - first, names))

    def test_pigeons(self):
        # Four of them in three holes, twelve letters.
        sits = [[("letter", "abcd"[pigeon] + str(hole)) for hole in range(3)] for pigeon in range(4)]
        left = [cond(no(first), no(second), third) for first, second, third in sits]
        left += [cond(sits[one][hole], no(sits[other][hole]))
                 for hole in range(3) for one in range(4) for other in range(one)]
        left = tuple(sorted(left))
        begin = time.perf_counter()
        proof = without_cuts(("cut", left, (), A, ()))
        self.assertLess(time.perf_counter() - begin, 5)
        self.assertTrue(is_right_sequent_proof(proof, left, ()))
        self.assertLessEqual(nodes(proof), 1000)


class TestSequentsOf(unittest.TestCase):
    def assert_sequents(self, proof):
        """That the sequent proof of a plain one is right, and one without cuts is made of it; both."""
        left = tuple(sorted(hypotheses(proof)))
        right = (proved(proof),)
        found = sequents_of(proof)
        self.assertTrue(is_right_sequent_proof(found, left, right), proof)
        self.assertIs(is_sequent_proof(found), True)
        free = without_cuts(found)
        self.assertTrue(is_right_sequent_proof(free, left, right), proof)
        self.assertNotIn("cut", kinds_in(free))
        self.assertLessEqual(nodes(found), 4000)
        self.assertLessEqual(nodes(free), 4000)
        return found, free

    def test_axioms(self):
        for k, formula in PATTERNS.items():
            with self.subTest(k=k):
                self.assert_sequents(((formula, ("axiom", k)),))

    def test_instances_whose_letters_stand_for_the_same_and_for_parts_of_one_another(self):
        worths = [A, no(A), no(no(A)), cond(A, A), cond(no(A), A), cond(A, no(A)), cond(A, A, A), cond(cond(A, A), A)]
        for k, pattern in PATTERNS.items():
            for p in worths:
                for q in worths:
                    for r in worths:
                        table = {"a": p, "b": q, "c": r, "d": r}
                        self.assert_sequents(((put_for(pattern, table), ("axiom", k)),))

    def test_hypotheses(self):
        self.assertEqual(self.assert_sequents(((A, HYPOTHESIS),))[0], start((A,), (A,), A))
        found, _ = self.assert_sequents(((B, HYPOTHESIS), (C, HYPOTHESIS), (A, HYPOTHESIS), (B, HYPOTHESIS)))
        self.assertEqual(found[1:3], ((A, B, C), (B,)))

    def test_detachments(self):
        self.assert_sequents(SELF)
        # No cuts for hypotheses.
        self.assertEqual(kinds_in(self.assert_sequents(CHAIN[:3])[0]), ["if left", "start", "start"])
        self.assertEqual(kinds_in(self.assert_sequents(CHAIN)[0]).count("cut"), 1)
        self.assert_sequents(((cond(A, A), HYPOTHESIS), (A, HYPOTHESIS), (A, ("detach", 0, 1))))
        self.assert_sequents(((cond(A, A, B), HYPOTHESIS), (A, HYPOTHESIS), (cond(A, B), ("detach", 0, 1)),
                              (B, ("detach", 2, 1))))
        self.assert_sequents(((cond(IF_AB, A), HYPOTHESIS), (IF_AB, HYPOTHESIS), (A, ("detach", 0, 1)),
                              (B, ("detach", 1, 2))))

    def test_axioms_of_all_numbers_with_hypotheses_and_detachments(self):
        proof = (
            (cond(A, B), HYPOTHESIS),
            (cond(cond(A, B), no(B), no(A)), ("axiom", 4)),
            (cond(no(B), no(A)), ("detach", 1, 0)),
            (no(B), HYPOTHESIS),
            (no(A), ("detach", 2, 3)),
            (cond(no(A), no(no(no(A)))), ("axiom", 6)),
            (no(no(no(A))), ("detach", 5, 4)),
            (cond(no(no(no(A))), no(A)), ("axiom", 5)),
            (cond(no(A), C, no(A)), ("axiom", 1)),
            (cond(C, no(A)), ("detach", 8, 4)),
        )
        check(proof)
        found, _ = self.assert_sequents(proof)
        self.assertEqual(found[1:3], ((cond(A, B), no(B)), (cond(C, no(A)),)))
        proof = (
            (cond(C, B, A), HYPOTHESIS),
            (cond(cond(C, B, A), cond(C, B), C, A), ("axiom", 2)),
            (cond(cond(C, B), C, A), ("detach", 1, 0)),
            (cond(cond(C, B, A), B, C, A), ("axiom", 3)),
            (cond(B, C, A), ("detach", 3, 0)),
            (B, HYPOTHESIS),
            (cond(C, A), ("detach", 4, 5)),
        )
        check(proof)
        self.assert_sequents(proof)
        self.assert_sequents(proof[:3])

    def test_by_chance(self):
        rng = random.Random(63)
        cuts = 0
        for _ in range(800):
            proof = chance_proof(rng, rng.randint(1, 10), ["a", "b", "c"][:rng.randint(1, 3)])
            cuts += "cut" in kinds_in(self.assert_sequents(proof)[0])
        self.assertGreater(cuts, 80)

    def test_great_formulas(self):
        rng = random.Random(64)
        begin = time.perf_counter()
        for _ in range(60):
            filling = lambda: chance_formula(rng, rng.randint(1, 60), ["a", "b", "c"])
            lines = [chance_axiom(rng, filling) for _ in range(3)]
            whole = lines[-1][0]
            lines += [(whole[1], HYPOTHESIS), (whole[2], ("detach", 2, 3))]
            if whole[2][0] == "if":
                lines += [(whole[2][1], HYPOTHESIS), (whole[2][2], ("detach", 4, 5))]
            lines += [(cond(lines[-1][0], no(no(lines[-1][0]))), ("axiom", 6))]
            lines += [(no(no(lines[-2][0])), ("detach", len(lines) - 1, len(lines) - 2))]
            self.assert_sequents(tuple(lines))
        self.assertLess(time.perf_counter() - begin, 20)


class TestWithoutCuts(unittest.TestCase):
    def assert_without(self, proof):
        free = without_cuts(proof)
        self.assertTrue(is_right_sequent_proof(free, proof[1], proof[2]), proof)
        self.assertNotIn("cut", kinds_in(free))
        return free

    def test_right_proofs(self):
        for proof in PROOFS:
            self.assert_without(proof)

    def test_a_proof_without_cuts_stays(self):
        for proof in PROOFS:
            if "cut" not in kinds_in(proof):
                self.assertEqual(self.assert_without(proof), proof)

    def test_cuts_within_cuts(self):
        rng = random.Random(65)
        many = 0
        while many < 300:
            left, right = chance_sequent(rng, 16, ["a", "b", "c"])
            proof = self.with_cuts(rng, left, right, 3)
            if proof is not None and "cut" in kinds_in(proof):
                many += 1
                self.assertTrue(is_right_sequent_proof(proof, left, right))
                self.assert_without(proof)

    def with_cuts(self, rng, left, right, levels):
        """A proof of the sequent with cuts, here and there, or None if there is none."""
        if levels == 0 or rng.random() < 0.2:
            kind, proof = decide_sequent(left, right)
            return proof if kind == "proof" else None
        formula = chance_formula(rng, rng.randint(1, 6), ["a", "b", "c", "d"])
        parts = (self.with_cuts(rng, left, with_one(right, formula), levels - 1),
                 self.with_cuts(rng, with_one(left, formula), right, levels - 1))
        return None if None in parts else ("cut", left, right, formula, parts)

    def test_formulas_are_parts_of_those_of_the_sequent(self):
        rng = random.Random(66)
        for _ in range(100):
            left, right = chance_sequent(rng, 30, ["a", "b", "c"])
            if first_breaking(left, right) is None:
                known = {part for formula in (*left, *right) for part in parts_within(formula)}
                for part in proofs_within(decide_sequent(left, right)[1]):
                    self.assertLessEqual({*part[1], *part[2], part[3]}, known)

    def test_many_letters(self):
        # More letters than any rows could be tried for.
        names = [("letter", small + digit) for small in "abcd" for digit in "0123456789"]
        chain = tuple(sorted([cond(first, second) for first, second in zip(names, names[1:])] + [names[0]]))
        goal = (names[-1],)
        proof = self.along(names, 1, chain, goal)
        self.assertTrue(is_right_sequent_proof(proof, chain, goal))
        begin = time.perf_counter()
        self.assert_without(proof)
        self.assertLess(time.perf_counter() - begin, 5)

    def along(self, names, at, left, right):
        """The proof along a chain of conditionals by cuts."""
        name = names[at]
        step = cond(names[at - 1], name)
        rest = tuple(part for part in left if part != step)
        other = with_one(right, name)
        detached = ("if left", left, other, step, (
            start(rest, with_one(other, names[at - 1]), names[at - 1]), start(with_one(rest, name), other, name)))
        if at == len(names) - 1:
            return detached
        return ("cut", left, right, name, (detached, self.along(names, at + 1, with_one(left, name), right)))


def parts_within(formula):
    return [formula, *[part for inner in formula[1:] if formula[0] != "letter" for part in parts_within(inner)]]


def proofs_within(proof):
    return [proof, *[part for inner in proof[4] for part in proofs_within(inner)]]


class TestFormulaOf(unittest.TestCase):
    def test_cases(self):
        cases = [
            ((), (A,), "a"),
            ((), (A, B), "~a -> b"),
            ((), (A, B, C), "~a -> ~b -> c"),
            ((A,), (), "~a"),
            ((A, B), (), "a -> ~b"),
            ((A, B, no(C)), (), "a -> b -> ~~c"),
            ((A,), (B,), "a -> b"),
            ((A, B), (C, no(A)), "a -> b -> ~c -> ~a"),
            ((A, B), (A0, D, no(A)), "a -> b -> ~a0 -> ~d -> ~a"),
            ((IF_AB,), (A, B), "(a -> b) -> ~a -> b"),
            ((IF_AB,), (), "~(a -> b)"),
            ((), (IF_AB, no(A)), "~(a -> b) -> ~a"),
            ((no(A),), (no(A),), "~a -> ~a"),
        ]
        for left, right, text in cases:
            self.assertEqual(write(formula_of(left, right)), text)

    def test_rows_break_the_sequent_if_they_make_the_formula_false(self):
        rng = random.Random(67)
        for _ in range(500):
            left, right = chance_sequent(rng, 20, ["a", "b", "c"])
            formula = formula_of(left, right)
            row = tuple(name for name in "abc" if rng.random() < 0.5)
            breaks = all(truth(part, row) for part in left) and not any(truth(part, row) for part in right)
            self.assertIs(truth(formula, row), not breaks)


if __name__ == "__main__":
    unittest.main()
