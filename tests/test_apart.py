"""Promise m1 and the interface under conceptscript/apart.py."""

import itertools
import random
import time
import unittest

from conceptscript.apart import find_table, why_apart
from conceptscript.proofs import check
from conceptscript.tables import is_table, parts
from samples import A, B, C, chance_formula, cond, no
from walks import PATTERNS, is_proof, names_in, stands_apart

OTHERS = {k: tuple(other for other in PATTERNS if other != k) for k in PATTERNS}


def all_tables(many):
    """All tables with so many values, in the order of the tuples."""
    values = range(many)
    designations = sorted(tuple(chosen) for length in range(many + 1)
                          for chosen in itertools.combinations(values, length))
    rows = list(itertools.product(values, repeat=many))
    return [("table", many, *rest)
            for rest in itertools.product(designations, rows, list(itertools.product(rows, repeat=many)))]


SMALL_TABLES = all_tables(1) + all_tables(2)


class TestWhyApart(unittest.TestCase):
    def test_tables(self):
        for k in (1, 2, 4, 5, 6):
            with self.subTest(k=k):
                table = why_apart(k)
                self.assertIs(is_table(table), True)
                self.assertLessEqual(table[1], 3)
                self.assertTrue(stands_apart(table, OTHERS[k], PATTERNS[k]))
                self.assertIs(parts(table, OTHERS[k], PATTERNS[k]), True)

    def test_the_third_axiom(self):
        proof = why_apart(3)
        self.assertTrue(is_proof(proof, (), PATTERNS[3], (1, 2)))
        self.assertIsNone(check(proof))


class TestFindTable(unittest.TestCase):
    def assert_first(self, axioms, formula):
        """That the table found is the first one; it."""
        for table in SMALL_TABLES:
            if stands_apart(table, axioms, formula):
                break
        else:
            table = None
        self.assertEqual(find_table(axioms, formula), table, (axioms, formula))
        return table

    def test_all_tables_are_in_order(self):
        self.assertEqual(SMALL_TABLES, sorted(SMALL_TABLES))
        self.assertEqual(len(set(SMALL_TABLES)), 2 + 4 * 4 * 16)

    def test_each_axiom_from_the_others(self):
        for k in PATTERNS:
            table = self.assert_first(OTHERS[k], PATTERNS[k])
            # For 1 and 2 three values are needed, and 3 follows from them.
            self.assertEqual(table is None, k <= 3)

    def test_axioms_from_sets_of_axioms(self):
        rng = random.Random(21)
        found = {None: 0, 1: 0, 2: 0}
        for _ in range(60):
            k = rng.randint(1, 6)
            table = self.assert_first(tuple(rng.sample(OTHERS[k], rng.randint(0, 5))), PATTERNS[k])
            found[table and table[1]] += 1
        self.assertGreater(min(found.values()), 0)

    def test_no_axioms(self):
        for formula in (A, cond(A, A), PATTERNS[1], no(B)):
            self.assertEqual(self.assert_first((), formula), ("table", 1, (), (0,), ((0,),)))

    def test_one_of_the_axioms_itself(self):
        for k in PATTERNS:
            self.assertIsNone(self.assert_first((k,), PATTERNS[k]))
            self.assertIsNone(self.assert_first((1, 2, 3, 4, 5, 6), PATTERNS[k]))

    def test_what_follows_has_none(self):
        self.assertIsNone(self.assert_first((1, 2), cond(A, A)))
        self.assertIsNone(self.assert_first((1, 2, 3, 4, 5, 6), cond(cond(cond(A, B), A), A)))
        self.assertIsNotNone(self.assert_first((1, 2, 3, 4, 5, 6), A))
        self.assertIsNotNone(self.assert_first((1, 2, 3, 4, 6), cond(A, no(A), B)))

    def test_by_chance(self):
        rng = random.Random(22)
        for _ in range(60):
            axioms = tuple(rng.sample(range(1, 7), rng.randint(0, 3)))
            self.assert_first(axioms, chance_formula(rng, rng.randint(1, 9), ["a", "b"]))

    def test_time_up_to_the_bounds(self):
        rng = random.Random(23)
        part = chance_formula(rng, 198, list("abcdef"))
        self.assertEqual(len(names_in(part)), 6)
        start = time.perf_counter()
        for axioms in ((), (1,), (1, 2), (4,), (1, 2, 3, 4, 5, 6)):
            self.assertEqual(find_table(axioms, cond(part, C, part)) is None, 1 in axioms)
        self.assertLess(time.perf_counter() - start, 10)


if __name__ == "__main__":
    unittest.main()
