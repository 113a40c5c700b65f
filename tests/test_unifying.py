"""Promises g1, g2 (names of letters) and the interface under conceptscript/unifying.py."""

import random
import time
import unittest

from conceptscript.formulas import match, put, size
from conceptscript.texts import read, write
from conceptscript.unifying import renamed, unify
from samples import A, A0, B, C, D, NAMES, Z9, chance_formula, cond, no
from walks import in_text_order, named_in_order, names_in, put_for, unified

# Pairs of formulas that are unified, with what both are then, up to the names of its letters.
UNIFIED = [
    ("a", "a", "a"),
    ("~a -> b", "~a -> b", "~a -> b"),
    ("a", "b", "a"),
    ("a", "~b", "~b"),
    ("a", "b -> c", "b -> c"),
    ("a -> b", "~c -> d", "~c -> d"),
    ("a -> a", "b -> ~c", "~c -> ~c"),
    ("a -> b", "b -> c", "a -> a"),
    ("a -> b", "b -> a", "a -> a"),
    ("a -> b -> c", "b -> c -> a", "a -> a -> a"),
    ("a -> b -> c", "b -> c -> d", "a -> a -> a"),
    ("a -> b -> c -> d", "b -> c -> d -> ~z9", "~a -> ~a -> ~a -> ~a"),
    ("a -> b -> c -> ~a0", "b -> c -> a -> ~d", "a -> a -> a -> ~b"),
    ("a -> b", "~b -> ~c", "~~a -> ~a"),
    ("~a -> b -> ~c", "b -> ~d -> d", "~~a -> ~~a -> ~a"),
    ("a -> b -> c", "(b -> b) -> (c -> c) -> ~d",
     "((~a -> ~a) -> ~a -> ~a) -> (~a -> ~a) -> ~a"),
    ("a -> a", "(b -> c) -> c -> b", "(a -> a) -> a -> a"),
    ("a -> b -> a", "c -> c -> d", "a -> a -> a"),
    ("(a -> b) -> a", "(c -> ~c) -> ~d", "(~a -> ~~a) -> ~a"),
]

NOT_UNIFIED = [
    ("a", "~a"), ("~a", "a"), ("a", "a -> b"), ("a", "b -> a"), ("b -> ~~(c -> a)", "b -> a"), ("~~a", "~a"),
    ("~a", "b -> c"), ("a -> b", "~c"), ("~(a -> b)", "~~c"), ("a -> ~b", "c -> d -> b"), ("a -> a", "~b -> (c -> d)"),
    ("a -> b", "~b -> ~a"), ("a -> b", "(b -> c) -> ~a"), ("a -> b -> c", "~b -> ~c -> ~a"),
    ("a -> b -> c", "~b -> c -> a"), ("a -> a -> b", "b -> ~c -> c"), ("a -> a", "b -> ~b"),
    ("(a -> b) -> a -> b", "(~c -> c) -> d -> d"),
]


def doubling(many):
    """Two formulas that are unified as one that doubles with each step."""
    names = [("letter", name) for name in NAMES]
    return cond(*names[:many], names[many]), cond(*[cond(name, name) for name in names[1:many + 1]], names[many])


class TestUnify(unittest.TestCase):
    def assert_unified(self, formula, other):
        """That both are unified just if they can be, and by a most general dict; it."""
        table = unify(formula, other)
        wanted = unified(formula, other)
        self.assertEqual(table is None, wanted is None, (formula, other))
        if table is None:
            return None
        whole = put(formula, table)
        self.assertEqual(whole, put(other, table))
        self.assertEqual(put(whole, table), whole)
        self.assertLessEqual(set(table), names_in(formula) | names_in(other))
        for name, part in table.items():
            self.assertNotEqual(part, ("letter", name))
            self.assertEqual(put(part, table), part)
        # What another way has found is got from it by a further put; the letters themselves stand for what is found.
        letters = [("letter", name) for name in sorted(names_in(formula) | names_in(other))]
        self.assertIsNotNone(match(cond(*[put(letter, table) for letter in letters]),
                                   cond(*[put_for(letter, wanted) for letter in letters])))
        return table

    def test_the_same_formulas(self):
        for text in ("a", "~a", "a -> b", "~(a -> z9) -> ~~a"):
            self.assertEqual(unify(read(text), read(text)), {})

    def test_a_letter_with_a_formula(self):
        self.assertEqual(unify(A, no(B)), {"a": no(B)})
        self.assertEqual(unify(no(B), A), {"a": no(B)})
        self.assertEqual(unify(Z9, cond(A, A0)), {"z9": cond(A, A0)})
        self.assertIn(unify(A, B), ({"a": B}, {"b": A}))

    def test_unified(self):
        for formula, other, whole in UNIFIED:
            for first, second in ((formula, other), (other, formula)):
                with self.subTest(first=first, second=second):
                    table = self.assert_unified(read(first), read(second))
                    self.assertEqual(named_in_order(put(read(first), table)), named_in_order(read(whole)))

    def test_not_unified(self):
        for formula, other in NOT_UNIFIED:
            with self.subTest(formula=formula, other=other):
                self.assertIsNone(self.assert_unified(read(formula), read(other)))
                self.assertIsNone(self.assert_unified(read(other), read(formula)))

    def test_letters_in_a_row_and_in_a_ring(self):
        names = [("letter", name) for name in NAMES[:40]]
        row = unify(cond(*names[:-1], A), cond(*names[1:], A))
        self.assertEqual(len(row), 39)
        self.assertEqual(len({*row.values()}), 1)
        ring = self.assert_unified(cond(*names, A), cond(*names[1:], names[0], A))
        self.assertEqual(len(ring), 39)
        self.assertIsNone(unify(cond(*names, A), cond(*names[1:], no(names[0]), A)))
        with_end = unify(cond(*names[:-1], A), cond(*names[1:-1], cond(no(Z9), B), A))
        self.assertIsNone(with_end)
        with_end = unify(cond(*names[:-1], D), cond(*names[1:-1], no(names[-1]), D))
        self.assertEqual(set(with_end.values()), {no(names[-1])})

    def test_common_letters_are_not_held_apart(self):
        self.assertIsNone(unify(cond(A, B), cond(no(A), B)))
        self.assertEqual(unify(cond(A, B), cond(A, no(A))), {"b": no(A)})
        self.assertIsNone(unify(cond(A, no(A)), cond(B, B)))
        self.assertEqual(unify(cond(A, B, C), cond(A, C, no(A))), {"b": no(A), "c": no(A)})

    def test_by_chance(self):
        rng = random.Random(31)
        found = {True: 0, False: 0}
        for _ in range(6000):
            names = ["a", "b", "c", "d", "e9"][:rng.randint(1, 5)]
            formula, other = (chance_formula(rng, rng.randint(1, 13), names) for _ in range(2))
            found[self.assert_unified(formula, other) is not None] += 1
        self.assertGreater(min(found.values()), 500)

    def test_by_chance_where_there_is_one(self):
        rng = random.Random(32)
        for _ in range(1000):
            names = ["a", "b", "c", "d", "e", "f"]
            whole = chance_formula(rng, rng.randint(5, 40), ["z", "z1"])
            formula, other = (self.lessened(rng, whole, names) for _ in range(2))
            if not names_in(formula) & names_in(other):
                self.assertIsNotNone(self.assert_unified(formula, other))
            else:
                self.assert_unified(formula, other)

    def lessened(self, rng, formula, names):
        """The formula with letters in place of some parts, each letter for one part alone."""
        known = {}

        def walk(part):
            if part in known.values() and rng.random() < 0.8:
                return ("letter", next(name for name in known if known[name] == part))
            if rng.random() < 0.2:
                name = rng.choice(names)
                if known.setdefault(name, part) == part:
                    return ("letter", name)
            return part if part[0] == "letter" else (part[0], *map(walk, part[1:]))
        return walk(formula)

    def test_formulas_that_double(self):
        formula, other = doubling(12)
        start = time.perf_counter()
        table = unify(formula, other)
        self.assertLess(time.perf_counter() - start, 1)
        self.assertEqual(put(formula, table), put(other, table))
        self.assertEqual(max(map(size, table.values())), 2 ** 13 - 1)

    def test_none_where_formulas_would_double_and_more(self):
        # Nothing comes of it that would be too great, so it is found in time that there is none.
        formula, other = doubling(38)
        start = time.perf_counter()
        self.assertIsNone(unify(cond(formula, A), cond(other, no(A))))
        self.assertIsNone(unify(cond(formula, A), cond(other, ("letter", NAMES[38]))))
        self.assertIsNone(unify(cond(formula, no(B)), cond(other, cond(C, D))))
        self.assertLess(time.perf_counter() - start, 1)

    def test_time_up_to_the_bounds(self):
        rng = random.Random(33)
        start = time.perf_counter()
        for _ in range(50):
            formula = chance_formula(rng, 400, NAMES[:40])
            self.assertEqual(unify(formula, formula), {})
            changed = put(formula, {name: ("letter", name + "0") for name in "abcd" if name + "0" in NAMES})
            table = unify(formula, changed)
            self.assertEqual(put(formula, table), put(changed, table))
        self.assertLess(time.perf_counter() - start, 10)


class TestRenamed(unittest.TestCase):
    def test_in_the_order_of_the_text(self):
        cases = [
            ("z", "a"), ("a", "a"), ("b -> a", "a -> b"), ("b -> a -> b", "a -> b -> a"),
            ("(c -> b) -> a", "(a -> b) -> c"), ("~~z9 -> a0", "~~a -> b"), ("a0 -> a -> a0", "a -> b -> a"),
            ("(c -> b -> a) -> (c -> b) -> c -> a", "(a -> b -> c) -> (a -> b) -> a -> c"),
            ("(d -> ~c) -> ~(b -> d) -> a", "(a -> ~b) -> ~(c -> a) -> d"),
        ]
        for text, wanted in cases:
            self.assertEqual(write(renamed(read(text))), wanted)

    def test_more_than_26_letters(self):
        for many in (26, 27, 28, 40, 52, 53, 80):
            names = NAMES[:many]
            formula = renamed(cond(*[("letter", name) for name in names[::-1]]))
            wanted = [small + digit for digit in ("", "0", "1", "2") for small in "abcdefghijklmnopqrstuvwxyz"]
            self.assertEqual(in_text_order(formula), wanted[:many])

    def test_against_a_walk(self):
        rng = random.Random(34)
        for _ in range(300):
            formula = chance_formula(rng, rng.randint(1, 400), rng.sample(NAMES, rng.randint(1, 40)))
            self.assertEqual(renamed(formula), named_in_order(formula))
            self.assertEqual(renamed(renamed(formula)), renamed(formula))
            self.assertIsNotNone(match(renamed(formula), formula))
            self.assertIsNotNone(match(formula, renamed(formula)))


if __name__ == "__main__":
    unittest.main()
