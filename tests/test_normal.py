"""Promise s4 and the interface under conceptscript/normal.py."""

import random
import time
import unittest

from conceptscript.normal import normal, normal_of, normal_proofs
from conceptscript.proofs import check
from conceptscript.texts import read, write
from samples import A, A0, B, Z9, chance_formula, cond, formulas_up_to, no
from walks import all_rows, is_proof, names_in, truth

ALL = (1, 2, 3, 4, 5, 6)


def form_by_words(names, rows):
    """The normal form by the words of [s4]."""
    x = ("letter", names[0])
    if len(names) == 1:
        return {(): no(cond(x, x)), ((names[0],),): x, ((),): no(x), ((), (names[0],)): cond(x, x)}[tuple(sorted(rows))]
    with_x = [row[1:] for row in rows if names[0] in row]
    without_x = [row for row in rows if names[0] not in row]
    p, q = form_by_words(names[1:], with_x), form_by_words(names[1:], without_x)
    return no(cond(cond(x, p), no(cond(no(x), q))))


class TestNormalOf(unittest.TestCase):
    def test_one_name(self):
        self.assertEqual(normal_of(("a",), ()), no(cond(A, A)))
        self.assertEqual(normal_of(("a",), (("a",),)), A)
        self.assertEqual(normal_of(("a",), ((),)), no(A))
        self.assertEqual(normal_of(("a",), ((), ("a",))), cond(A, A))
        self.assertEqual(normal_of(("z9",), (("z9",), ())), cond(Z9, Z9))

    def test_two_names(self):
        cases = [
            ((), "~((a -> ~(b -> b)) -> ~(~a -> ~(b -> b)))"),
            ((("a",),), "~((a -> ~b) -> ~(~a -> ~(b -> b)))"),
            ((("b",),), "~((a -> ~(b -> b)) -> ~(~a -> b))"),
            (((),), "~((a -> ~(b -> b)) -> ~(~a -> ~b))"),
            ((("a", "b"),), "~((a -> b) -> ~(~a -> ~(b -> b)))"),
            (((), ("a", "b"), ("b",)), "~((a -> b) -> ~(~a -> b -> b))"),
            (((), ("a",), ("a", "b"), ("b",)), "~((a -> b -> b) -> ~(~a -> b -> b))"),
        ]
        for rows, text in cases:
            self.assertEqual(write(normal_of(("a", "b"), rows)), text)

    def test_rows_in_any_order(self):
        names = ("a", "a0", "c")
        rows = tuple(all_rows(names))
        self.assertEqual(normal_of(names, rows), normal_of(names, rows[::-1]))
        self.assertEqual(normal_of(names, rows[1:5]), normal_of(names, rows[4:0:-1]))

    def test_all_sets_of_rows_over_up_to_three_names(self):
        for names in (("a",), ("a", "b"), ("a", "a0"), ("b", "c", "z9")):
            every = all_rows(names)
            for bits in range(2 ** len(every)):
                rows = tuple(row for at, row in enumerate(every) if bits >> at & 1)
                formula = normal_of(names, rows)
                self.assertEqual(formula, form_by_words(names, rows))
                self.assertEqual(names_in(formula), set(names))
                self.assertEqual(tuple(row for row in every if truth(formula, row)), rows)

    def test_four_names_by_chance(self):
        rng = random.Random(71)
        names = ("a", "b", "b0", "d")
        every = all_rows(names)
        for rows in [(), tuple(every)] + [tuple(rng.sample(every, rng.randint(0, 16))) for _ in range(200)]:
            formula = normal_of(names, rows)
            self.assertEqual(formula, form_by_words(names, rows))
            self.assertEqual({row for row in every if truth(formula, row)}, set(rows))


class TestNormal(unittest.TestCase):
    def test_cases(self):
        cases = [
            ("a", "a"), ("~a", "~a"), ("~~a", "a"), ("a -> a", "a -> a"), ("~(a -> a)", "~(a -> a)"),
            ("a -> ~a", "~a"), ("~a -> a", "a"), ("z9 -> z9 -> z9", "z9 -> z9"),
            ("a -> b", "~((a -> b) -> ~(~a -> b -> b))"), ("b -> a", "~((a -> b -> b) -> ~(~a -> ~b))"),
            ("~(a -> ~b)", "~((a -> b) -> ~(~a -> ~(b -> b)))"), ("b -> b -> a", "~((a -> b -> b) -> ~(~a -> ~b))"),
        ]
        for text, wanted in cases:
            self.assertEqual(write(normal(read(text))), wanted)

    def test_the_same_for_formulas_that_are_true_under_the_same_rows(self):
        forms = {}
        for formula in formulas_up_to(6, (A, B)):
            names = tuple(sorted(names_in(formula)))
            rows = tuple(row for row in all_rows(names) if truth(formula, row))
            form = forms.setdefault((names, rows), normal(formula))
            self.assertEqual(normal(formula), form)
            self.assertEqual(form, form_by_words(names, rows))
        self.assertEqual(len(set(forms.values())), len(forms))

    def test_normal_forms_are_their_own(self):
        rng = random.Random(72)
        for _ in range(100):
            form = normal(chance_formula(rng, rng.randint(1, 30), ["a", "b", "c", "d"]))
            self.assertEqual(normal(form), form)

    def test_up_to_the_bounds(self):
        rng = random.Random(73)
        begin = time.perf_counter()
        for _ in range(5):
            formula = chance_formula(rng, 400, ["a", "a0", "b", "c", "d", "z"])
            names = sorted(names_in(formula))
            self.assertEqual(len(names), 6)
            form = normal(formula)
            self.assertEqual(form, form_by_words(names, [row for row in all_rows(names) if truth(formula, row)]))
        self.assertLess(time.perf_counter() - begin, 10)


class TestNormalProofs(unittest.TestCase):
    def assert_proofs(self, formula):
        form = normal(formula)
        found = normal_proofs(formula)
        self.assertEqual(len(found), 2)
        self.assertIs(type(found), tuple)
        self.assertTrue(is_proof(found[0], (), cond(formula, form), ALL), formula)
        self.assertTrue(is_proof(found[1], (), cond(form, formula), ALL), formula)
        for proof in found:
            self.assertIsNone(check(proof))
            self.assertLessEqual(len(proof), 4000)

    def test_small_formulas(self):
        for formula in formulas_up_to(5, (A, B)):
            self.assert_proofs(formula)

    def test_up_to_the_bounds(self):
        rng = random.Random(74)
        begin = time.perf_counter()
        for _ in range(300):
            self.assert_proofs(chance_formula(rng, rng.randint(6, 8), ["a", "b0"]))
        for text in ("(b -> a) -> ~(a -> b)", "~(~b -> a -> b)", "~((b -> a) -> b)", "~a -> (b -> a) -> a"):
            self.assert_proofs(read(text))
        self.assertLess(time.perf_counter() - begin, 60)

    def test_other_letters(self):
        self.assert_proofs(cond(A0, no(Z9)))
        self.assert_proofs(Z9)


if __name__ == "__main__":
    unittest.main()
