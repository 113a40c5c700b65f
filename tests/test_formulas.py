"""Promises c1, c2, c3, c5 and the interface under conceptscript/formulas.py."""

import random
import unittest

from conceptscript.formulas import axiom, is_instance, letters, match, numbers, put, size
from samples import A, A0, B, B0, C, D, NAMES, TOWERS, Z9, chance_formula, cond, no, signs
from walks import PATTERNS as AXIOMS

# Formulas of unlike kinds, some of them parts of others, to stand for the letters of an axiom.
FILLINGS = {
    "a": cond(no(A), B0),
    "b": no(no(A)),
    "c": A,
    "d": cond(A, cond(no(A), B0)),
}


def with_place_changed(formula, place, other):
    """The formula with the letter at a place (from 0, in the order of its text) replaced, and how many follow."""
    if formula[0] == "letter":
        return (other if place == 0 else formula), place - 1
    parts = []
    for part in formula[1:]:
        part, place = with_place_changed(part, place, other)
        parts.append(part)
    return (formula[0], *parts), place


def names_in_order(formula):
    return [sign for sign in signs(formula) if sign[0].isalpha()]


class TestSize(unittest.TestCase):
    def test_small_ones(self):
        for formula, many in [
            (A, 1),
            (A0, 1),
            (no(A), 2),
            (no(no(Z9)), 3),
            (cond(A, B), 3),
            (cond(A, A), 3),
            (cond(A, B, A), 5),
            (cond(cond(A, A), cond(A, A)), 7),
            (no(cond(no(A), no(A0))), 6),
        ]:
            with self.subTest(formula=formula):
                self.assertEqual(size(formula), many)

    def test_axioms(self):
        self.assertEqual([size(AXIOMS[k]) for k in range(1, 7)], [5, 13, 11, 9, 5, 5])

    def test_up_to_the_bounds(self):
        rng = random.Random(1)
        for many in [*range(1, 60), 200, 399, 400]:
            self.assertEqual(size(chance_formula(rng, many, NAMES[:40])), many)
        self.assertEqual([size(tower) for tower in TOWERS[:3]], [60, 119, 119])

    def test_a_shared_part_counts_as_often_as_it_occurs(self):
        formula = A
        for _ in range(8):
            formula = ("if", formula, formula)
        self.assertEqual(size(formula), 511)


class TestLetters(unittest.TestCase):
    def test_small_ones(self):
        for formula, names in [
            (A, ("a",)),
            (Z9, ("z9",)),
            (no(A0), ("a0",)),
            (cond(B, A), ("a", "b")),
            (cond(A, A), ("a",)),
            (cond(B, A0, A), ("a", "a0", "b")),
            (cond(no(B0), cond(B, A0), no(cond(A, B, B0))), ("a", "a0", "b", "b0")),
        ]:
            with self.subTest(formula=formula):
                found = letters(formula)
                self.assertIsInstance(found, tuple)
                self.assertEqual(found, names)

    def test_rising_as_texts_are(self):
        rng = random.Random(2)
        names = rng.sample(NAMES, 40)
        self.assertEqual(letters(cond(*[("letter", name) for name in names])), tuple(sorted(names)))
        formula = cond(*[("letter", name) for name in ("b", "a9", "z", "a1", "a", "b0", "a0")])
        self.assertEqual(letters(formula), ("a", "a0", "a1", "a9", "b", "b0", "z"))

    def test_up_to_the_bounds(self):
        rng = random.Random(3)
        for many in (1, 2, 3, 10, 100, 400):
            formula = chance_formula(rng, many, NAMES[:40])
            self.assertEqual(letters(formula), tuple(sorted(dict.fromkeys(names_in_order(formula)))))
        self.assertEqual(letters(TOWERS[0]), ("a",))
        self.assertEqual(letters(TOWERS[1]), ("a", "b"))


class TestPut(unittest.TestCase):
    def test_all_at_once(self):
        self.assertEqual(put(cond(A, B, A), {"a": B, "b": A}), cond(B, A, B))
        self.assertEqual(put(cond(A, B), {"a": cond(A, B), "b": no(A)}), cond(cond(A, B), no(A)))
        self.assertEqual(put(cond(A, B, C), {"a": B, "b": C, "c": A}), cond(B, C, A))

    def test_letters_that_only_one_of_both_has(self):
        self.assertEqual(put(cond(A, C), {"b": A, "a": no(D)}), cond(no(D), C))
        self.assertEqual(put(A, {}), A)
        self.assertEqual(put(no(A), {"b": B}), no(A))
        self.assertEqual(put(cond(A, A0), {"a": B}), cond(B, A0))
        self.assertEqual(put(cond(A, A0), {"a0": B}), cond(A, B))

    def test_each_place_of_a_letter(self):
        formula = no(cond(A, no(A), cond(A, B)))
        self.assertEqual(put(formula, {"a": no(C)}), no(cond(no(C), no(no(C)), cond(no(C), B))))

    def test_the_table_stays_as_it_is(self):
        table = {"a": B, "c": D}
        put(cond(A, B, C), table)
        self.assertEqual(table, {"a": B, "c": D})

    def test_up_to_the_bounds(self):
        rng = random.Random(4)
        for many in (50, 400):
            formula = chance_formula(rng, many, NAMES[:40])
            table = {name: ("letter", "q" + name[1:]) for name in NAMES[:11]}
            renamed = put(formula, table)
            wanted = [table[name][1] if name in table else name for name in names_in_order(formula)]
            self.assertEqual(names_in_order(renamed), wanted)
            self.assertEqual(put(renamed, {pair[1]: ("letter", name) for name, pair in table.items()}), formula)
        for tower in TOWERS:
            self.assertEqual(put(put(tower, {"a": C}), {"c": A}), tower)


class TestMatch(unittest.TestCase):
    def test_just_the_letters_of_the_pattern(self):
        for pattern, formula, table in [
            (A, A, {"a": A}),
            (A, B, {"a": B}),
            (A, cond(B, no(A)), {"a": cond(B, no(A))}),
            (no(A), no(no(B)), {"a": no(B)}),
            (cond(A, B), cond(B, A), {"a": B, "b": A}),
            (cond(A, B), cond(C, C), {"a": C, "b": C}),
            (cond(A, A), cond(no(A), no(A)), {"a": no(A)}),
            (cond(A, A0), cond(A0, A), {"a": A0, "a0": A}),
            (cond(A, B, A), cond(cond(A, B), C, cond(A, B)), {"a": cond(A, B), "b": C}),
        ]:
            with self.subTest(pattern=pattern, formula=formula):
                self.assertEqual(match(pattern, formula), table)

    def test_none_where_there_is_none(self):
        for pattern, formula in [
            (no(A), A),
            (no(A), cond(A, B)),
            (cond(A, B), A),
            (cond(A, B), no(cond(A, B))),
            (no(no(A)), no(A)),
            (cond(A, A), cond(A, B)),
            (cond(A, A), cond(A, no(A))),
            (cond(A, no(A)), cond(A, no(B))),
            (cond(no(A), A), cond(no(A), no(A))),
            (cond(A, B, A), cond(A, B, B)),
            (cond(A, B, A), cond(A, B)),
            (cond(cond(A, B), A), cond(A, cond(A, B))),
        ]:
            with self.subTest(pattern=pattern, formula=formula):
                self.assertIsNone(match(pattern, formula))

    def test_put_gives_the_formula(self):
        rng = random.Random(5)
        for _ in range(300):
            pattern = chance_formula(rng, rng.randint(1, 20), ["a", "b", "c0"])
            table = {name: chance_formula(rng, rng.randint(1, 9), ["a", "b", "d"]) for name in letters(pattern)}
            self.assertEqual(match(pattern, put(pattern, table)), table)

    def test_one_place_changed(self):
        rng = random.Random(6)
        for _ in range(300):
            pattern = chance_formula(rng, rng.randint(1, 20), ["a", "b", "c0"])
            names = names_in_order(pattern)
            place = rng.randrange(len(names))
            changed, _ = with_place_changed(pattern, place, no(Z9))
            if names.count(names[place]) > 1:
                self.assertIsNone(match(pattern, changed))
            else:
                table = {name: ("letter", name) for name in names}
                self.assertEqual(match(pattern, changed), {**table, names[place]: no(Z9)})

    def test_up_to_the_bounds(self):
        rng = random.Random(7)
        formula = chance_formula(rng, 400, NAMES[:40])
        self.assertEqual(match(formula, formula), {name: ("letter", name) for name in letters(formula)})
        for tower in TOWERS:
            self.assertEqual(match(tower, tower), {name: ("letter", name) for name in letters(tower)})
            self.assertEqual(match(cond(A, A), cond(tower, tower)), {"a": tower})
            self.assertIsNone(match(cond(A, A), cond(tower, put(tower, {"a": C}))))


class TestAxioms(unittest.TestCase):
    def test_their_formulas(self):
        for k, formula in AXIOMS.items():
            with self.subTest(k=k):
                self.assertEqual(axiom(k), formula)

    def test_instances(self):
        for k, formula in AXIOMS.items():
            with self.subTest(k=k):
                self.assertIs(is_instance(k, formula), True)
                self.assertIs(is_instance(k, put(formula, FILLINGS)), True)
                self.assertIs(is_instance(k, put(formula, {name: Z9 for name in "abcd"})), True)

    def test_an_axiom_is_no_instance_of_another(self):
        for k in AXIOMS:
            for other, formula in AXIOMS.items():
                with self.subTest(k=k, other=other):
                    self.assertIs(is_instance(k, formula), k == other)

    def test_instances_that_are_close_to_another_axiom(self):
        for k, formula in [
            (1, cond(cond(A, B), cond(A, A), A, B)),
            (2, cond(cond(C, A, A), cond(C, A), C, A)),
            (2, cond(cond(A, A, A), cond(A, A), A, A)),
            (3, cond(cond(A, A, A), A, A, A)),
            (3, cond(cond(cond(A, B), A, A), A, cond(A, B), A)),
            (4, cond(cond(A, A), no(A), no(A))),
            (4, cond(cond(no(B), no(A)), no(no(A)), no(no(B)))),
            (5, cond(no(no(no(no(A)))), no(no(A)))),
            (6, cond(no(no(A)), no(no(no(no(A)))))),
        ]:
            with self.subTest(k=k, formula=formula):
                self.assertEqual([other for other in AXIOMS if is_instance(other, formula)], [k])

    def test_one_part_only_is_other(self):
        for k, formula in AXIOMS.items():
            names = names_in_order(formula)
            for place, name in enumerate(names):
                with self.subTest(k=k, place=place):
                    once = names.count(name) == 1
                    for other in (Z9, no(("letter", name)), cond(A, A)):
                        changed, _ = with_place_changed(formula, place, other)
                        self.assertIs(is_instance(k, changed), once)

    def test_other_formulas(self):
        for k in AXIOMS:
            for formula in (A, no(AXIOMS[k]), cond(A, AXIOMS[k]), cond(AXIOMS[k], A), no(A), cond(A, B)):
                with self.subTest(k=k, formula=formula):
                    self.assertIs(is_instance(k, formula), False)
        self.assertIs(is_instance(1, cond(A, cond(A, B))), False)
        self.assertIs(is_instance(4, cond(cond(B, A), no(B), no(A))), False)
        self.assertIs(is_instance(5, cond(no(A), A)), False)
        self.assertIs(is_instance(6, cond(A, no(A))), False)

    def test_no_axiom_of_this_number(self):
        for k in (-1, 0, 7, 31):
            self.assertIsNone(axiom(k))
            self.assertIs(is_instance(k, AXIOMS[1]), False)


class TestStrengths(unittest.TestCase):
    def test_numbers(self):
        self.assertEqual(numbers("positive"), (1, 2, 3))
        self.assertEqual(numbers("minimal"), (1, 2, 3, 4, 6))
        self.assertEqual(numbers("full"), (1, 2, 3, 4, 5, 6))


if __name__ == "__main__":
    unittest.main()
