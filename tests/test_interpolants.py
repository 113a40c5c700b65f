"""Promises s5, s6 and the interface under conceptscript/interpolants.py."""

import random
import time
import unittest

from conceptscript.interpolants import interpolant, is_interpolant, strongest_over, weakest_over
from conceptscript.normal import normal_of
from conceptscript.proofs import check
from conceptscript.texts import read, write
from samples import A, B, C, D, chance_formula, cond, formulas_up_to, no
from walks import all_rows, is_proof, names_in, truth

ALL = (1, 2, 3, 4, 5, 6)


def is_always_true(formula):
    return all(truth(formula, row) for row in all_rows(names_in(formula)))


def is_between(p, q, i):
    """Whether i is an interpolant of p and q by the words of [s5]."""
    return names_in(i) <= names_in(p) & names_in(q) and is_always_true(cond(p, i)) and is_always_true(cond(i, q))


class TestInterpolant(unittest.TestCase):
    def assert_interpolant(self, p, q):
        """That the answer is right; its kind, or None."""
        found = interpolant(p, q)
        if not is_always_true(cond(p, q)):
            self.assertIsNone(found, (p, q))
            return None
        self.assertIs(type(found), tuple)
        kind = found[0]
        if names_in(p) & names_in(q):
            self.assertEqual(kind, "formula")
            _, i, first, second = found
            self.assertTrue(is_between(p, q, i), (p, q))
            self.assertIs(is_interpolant(p, q, i), True)
            self.assertTrue(is_proof(first, (), cond(p, i), ALL), (p, q))
            self.assertTrue(is_proof(second, (), cond(i, q), ALL), (p, q))
            proofs = (first, second)
        else:
            self.assertEqual(kind, "first" if is_always_true(no(p)) else "second", (p, q))
            _, proof = found
            self.assertTrue(is_proof(proof, (), no(p) if kind == "first" else q, ALL), (p, q))
            proofs = (proof,)
        for proof in proofs:
            self.assertIsNone(check(proof))
            self.assertLessEqual(len(proof), 4000)
        return kind

    def test_cases(self):
        cases = [
            ("a", "a", "formula"), ("~(a -> b)", "c -> a", "formula"), ("~(a -> ~b)", "c -> b", "formula"),
            ("a", "b -> a", "formula"), ("~(b -> a)", "a -> c", "formula"), ("~(a -> a)", "a", "formula"),
            ("a", "a -> a", "formula"), ("~(a -> a)", "a -> a", "formula"), ("a -> b", "~b -> ~a", "formula"),
            ("~(a -> a)", "b", "first"), ("~(b -> ~~b)", "a", "first"), ("a", "b -> b", "second"),
            ("a -> b", "c -> c", "second"), ("~(a -> a)", "b -> b", "first"), ("~(a -> b -> a)", "c -> c", "first"),
            ("a", "b", None), ("a -> b", "b -> a", None), ("a", "~a", None), ("a -> a", "b", None),
            ("a", "~(b -> b)", None),
        ]
        for p, q, wanted in cases:
            with self.subTest(p=p, q=q):
                self.assertEqual(self.assert_interpolant(read(p), read(q)), wanted)

    def test_all_small_ones(self):
        for p in formulas_up_to(4, (A, B)):
            for q in formulas_up_to(4, (B, C)):
                self.assert_interpolant(p, q)

    def test_by_chance_up_to_the_bounds(self):
        rng = random.Random(81)
        found = {}
        begin = time.perf_counter()
        for _ in range(4000):
            p, q = (chance_formula(rng, rng.randint(3, 6), ["a", "b", "c"]) for _ in range(2))
            if len(names_in(p) & names_in(q)) <= 2:
                kind = self.assert_interpolant(p, q)
                found[kind] = found.get(kind, 0) + 1
        self.assertLess(time.perf_counter() - begin, 60)
        self.assertGreater(min(found[kind] for kind in (None, "formula", "first", "second")), 20)


class TestIsInterpolant(unittest.TestCase):
    def assert_is(self, p, q, i, wanted):
        self.assertIs(is_between(read(p), read(q), read(i)), wanted)
        self.assertIs(is_interpolant(read(p), read(q), read(i)), wanted)

    def test_right_ones(self):
        self.assert_is("~(a -> b)", "c -> a", "a", True)
        self.assert_is("~(a -> b)", "c -> a", "~~a", True)
        self.assert_is("a", "a", "a", True)
        self.assert_is("a", "b -> a", "a", True)
        self.assert_is("~(a -> ~b)", "b -> a", "~(a -> ~b)", True)
        self.assert_is("~(a -> ~b)", "b -> a", "a", True)
        self.assert_is("~(a -> ~b)", "b -> a", "~~(b -> a)", True)
        self.assert_is("~(a -> a)", "a -> a", "a", True)

    def test_a_letter_that_one_of_both_does_not_have(self):
        self.assert_is("~(a -> b)", "c -> a", "~(a -> b)", False)
        self.assert_is("~(a -> b)", "c -> a", "c -> a", False)
        self.assert_is("~(a -> b)", "c -> a", "(d -> d) -> a", False)
        self.assert_is("~(a -> a)", "b", "~(a -> a)", False)
        self.assert_is("a", "b -> b", "b -> b", False)

    def test_rows_that_break_one_of_both_conditionals(self):
        self.assert_is("a", "a", "~a", False)
        self.assert_is("a", "b -> a", "a -> a", False)
        self.assert_is("a", "b -> a", "~(a -> a)", False)
        self.assert_is("a -> b", "~b -> ~a", "b", False)
        self.assert_is("a -> b", "~b -> ~a", "a -> a", False)
        self.assert_is("a -> b", "b -> a", "a -> b", False)

    def test_by_chance(self):
        rng = random.Random(82)
        found = {True: 0, False: 0}
        for _ in range(6000):
            p = chance_formula(rng, rng.randint(1, 9), ["a", "b"])
            q = chance_formula(rng, rng.randint(1, 9), ["b", "c"] if rng.random() < 0.5 else ["a", "b"])
            i = chance_formula(rng, rng.randint(1, 4), ["b"] if rng.random() < 0.8 else ["a", "b", "c"])
            wanted = is_between(p, q, i)
            self.assertIs(is_interpolant(p, q, i), wanted)
            found[wanted] += 1
        self.assertGreater(min(found.values()), 200)

    def test_time_up_to_the_bounds(self):
        rng = random.Random(83)
        names = list("abcdef")
        p = chance_formula(rng, 300, names)
        self.assertEqual(len(names_in(p)), 6)
        begin = time.perf_counter()
        self.assertIs(is_interpolant(p, p, p), True)
        self.assertIs(is_interpolant(p, cond(A, p), p), True)
        self.assertIs(is_interpolant(p, p, no(p)), False)
        self.assertLess(time.perf_counter() - begin, 5)


class TestStrongestAndWeakest(unittest.TestCase):
    def assert_both(self, p, names):
        """That both are as [s6] tells; they."""
        every = all_rows(names_in(p) | set(names))
        true = [row for row in every if truth(p, row)]
        over = lambda row: tuple(name for name in row if name in names)
        some = tuple(row for row in all_rows(names) if any(over(other) == row for other in true))
        always = tuple(row for row in all_rows(names) if all(other in true for other in every if over(other) == row))
        strong, weak = strongest_over(p, names), weakest_over(p, names)
        self.assertEqual(strong, normal_of(names, some), (p, names))
        self.assertEqual(weak, normal_of(names, always), (p, names))
        self.assertTrue(all(truth(strong, row) for row in true))
        self.assertTrue(all(row in true for row in every if truth(weak, row)))
        return write(strong), write(weak)

    def test_names_that_the_formula_has(self):
        self.assertEqual(self.assert_both(A, ("a",)), ("a", "a"))
        self.assertEqual(self.assert_both(cond(A, B), ("a",)), ("a -> a", "~a"))
        self.assertEqual(self.assert_both(cond(A, B), ("b",)), ("b -> b", "b"))
        self.assertEqual(self.assert_both(no(cond(A, B)), ("a",)), ("a", "~(a -> a)"))
        self.assertEqual(self.assert_both(no(cond(A, B)), ("b",)), ("~b", "~(b -> b)"))
        form = "~((a -> b) -> ~(~a -> b -> b))"
        self.assertEqual(self.assert_both(cond(A, B), ("a", "b")), (form, form))
        self.assertEqual(self.assert_both(cond(A, A), ("a",)), ("a -> a", "a -> a"))
        self.assertEqual(self.assert_both(no(cond(A, A)), ("a",)), ("~(a -> a)", "~(a -> a)"))

    def test_names_that_the_formula_has_in_part(self):
        self.assertEqual(self.assert_both(A, ("a", "b")),
                         ("~((a -> b -> b) -> ~(~a -> ~(b -> b)))",) * 2)
        self.assertEqual(self.assert_both(no(cond(A, no(B))), ("b", "c")),
                         ("~((b -> c -> c) -> ~(~b -> ~(c -> c)))", "~((b -> ~(c -> c)) -> ~(~b -> ~(c -> c)))"))

    def test_names_that_the_formula_does_not_have(self):
        self.assertEqual(self.assert_both(A, ("b",)), ("b -> b", "~(b -> b)"))
        self.assertEqual(self.assert_both(cond(A, A), ("b",)), ("b -> b", "b -> b"))
        self.assertEqual(self.assert_both(no(cond(A, A)), ("b",)), ("~(b -> b)", "~(b -> b)"))
        self.assertEqual(self.assert_both(cond(A, D), ("b", "c"))[0], "~((b -> c -> c) -> ~(~b -> c -> c))")

    def test_by_chance_up_to_the_bounds(self):
        rng = random.Random(84)
        letters = ["a", "b", "b0", "c", "d", "z9"]
        for _ in range(400):
            p = chance_formula(rng, rng.randint(1, 20), rng.sample(letters, rng.randint(1, 5)))
            self.assert_both(p, tuple(sorted(rng.sample(letters, rng.randint(1, 4)))))

    def test_the_strongest_is_between(self):
        rng = random.Random(85)
        for _ in range(300):
            p = chance_formula(rng, rng.randint(1, 12), ["a", "b", "c"])
            names = tuple(sorted(names_in(p) & {"b", "c", "d"}))
            if names:
                strong, weak = strongest_over(p, names), weakest_over(p, names)
                self.assertIs(is_interpolant(p, strong, strong), True)
                self.assertIs(is_interpolant(weak, p, weak), True)
                self.assertIs(is_interpolant(weak, strong, weak), True)


if __name__ == "__main__":
    unittest.main()
