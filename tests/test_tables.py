"""Promise c8 and the interface under conceptscript/tables.py."""

import itertools
import random
import time
import unittest

from conceptscript.tables import is_kept, is_table, keeps_rule, parts, value
from samples import A, A0, B, C, D, Z9, chance_formula, cond, no
from walks import PATTERNS, does_keep, does_keep_rule, names_in, stands_apart, value_in

# The table of truth, 0 for true, and tables of one, three and four values.
TRUTH = ("table", 2, (0,), (1, 0), ((0, 1), (0, 0)))
ONE = ("table", 1, (0,), (0,), ((0,),))
NONE = ("table", 1, (), (0,), ((0,),))
THREE = ("table", 3, (0,), (2, 1, 0), ((0, 1, 2), (0, 0, 1), (0, 0, 0)))
FOUR = ("table", 4, (0, 3), (1, 2, 3, 0), ((0, 1, 2, 3), (3, 2, 1, 0), (0, 0, 3, 3), (1, 1, 1, 1)))

TABLES = [
    TRUTH, ONE, NONE, THREE, FOUR,
    ("table", 2, (), (0, 0), ((0, 0), (0, 0))),
    ("table", 2, (1,), (1, 1), ((1, 0), (0, 1))),
    ("table", 2, (0, 1), (1, 0), ((1, 1), (1, 1))),
    ("table", 3, (0, 2), (0, 1, 2), ((0, 0, 0), (1, 1, 1), (2, 2, 2))),
    ("table", 3, (0, 1, 2), (2, 2, 2), ((2, 2, 2), (2, 2, 2), (2, 2, 2))),
    ("table", 4, (0, 1, 2, 3), (3, 3, 3, 3), ((3, 3, 3, 3),) * 4),
    ("table", 4, (), (0, 1, 2, 3), ((0, 1, 2, 3),) * 4),
]

NO_TABLES = [
    # A value that is none.
    ("table", 2, (0,), (1, 2), ((0, 1), (0, 0))),
    ("table", 2, (0,), (-1, 0), ((0, 1), (0, 0))),
    ("table", 2, (0,), (1, 0), ((0, 2), (0, 0))),
    ("table", 2, (0,), (1, 0), ((0, 1), (-1, 0))),
    ("table", 1, (0,), (1,), ((0,),)),
    ("table", 1, (0,), (0,), ((1,),)),
    ("table", 4, (0,), (0, 1, 2, 4), ((0, 0, 0, 0),) * 4),
    ("table", 4, (0,), (0, 1, 2, 3), ((0, 0, 0, 0), (0, 0, 0, 0), (0, 0, 0, 0), (0, 0, 0, 4))),
    # Rows too many or too few, too long or too short.
    ("table", 2, (0,), (1, 0), ((0, 1),)),
    ("table", 2, (0,), (1, 0), ((0, 1), (0, 0), (0, 0))),
    ("table", 2, (0,), (1, 0), ()),
    ("table", 1, (0,), (0,), ()),
    ("table", 1, (0,), (0,), ((0,), (0,))),
    ("table", 2, (0,), (1, 0), ((0, 1), (0,))),
    ("table", 2, (0,), (1, 0), ((0, 1, 1), (0, 0))),
    ("table", 2, (0,), (1, 0), ((0, 1), (0, 0, 0))),
    ("table", 2, (0,), (1, 0), ((), (0, 0))),
    ("table", 3, (0,), (1, 0, 2), ((0, 1), (0, 0), (0, 0))),
    # Nots of another length.
    ("table", 2, (0,), (1,), ((0, 1), (0, 0))),
    ("table", 2, (0,), (1, 0, 1), ((0, 1), (0, 0))),
    ("table", 2, (0,), (), ((0, 1), (0, 0))),
    ("table", 1, (0,), (0, 0), ((0,),)),
    # Designated: not rising, twice the same, no value.
    ("table", 2, (1, 0), (1, 0), ((0, 1), (0, 0))),
    ("table", 3, (0, 2, 1), (0, 0, 0), ((0, 0, 0),) * 3),
    ("table", 2, (0, 0), (1, 0), ((0, 1), (0, 0))),
    ("table", 2, (0, 1, 1), (1, 0), ((0, 1), (0, 0))),
    ("table", 2, (2,), (1, 0), ((0, 1), (0, 0))),
    ("table", 2, (-1,), (1, 0), ((0, 1), (0, 0))),
    ("table", 2, (-1, 0), (1, 0), ((0, 1), (0, 0))),
    ("table", 1, (0, 1), (0,), ((0,),)),
    # Five values, no values and less.
    ("table", 5, (0,), (0, 1, 2, 3, 4), ((0, 1, 2, 3, 4),) * 5),
    ("table", 0, (), (), ()),
    ("table", -1, (), (), ()),
    # Other numbers of values than the rows have.
    ("table", 1, (0,), (1, 0), ((0, 1), (0, 0))),
    ("table", 3, (0,), (1, 0), ((0, 1), (0, 0))),
    # Other kinds of values.
    None, 0, 1, True, "table", "", (), [], {}, 1.5, b"table", object(),
    ("table",), ("table", 2), ("table", 2, (0,)), ("table", 2, (0,), (1, 0)), TRUTH + ((),), TRUTH[1:], list(TRUTH),
    ("tables",) + TRUTH[1:], (None,) + TRUTH[1:], ("model",) + TRUTH[1:], ((),) + TRUTH[1:], (b"table",) + TRUTH[1:],
    ("table", None) + TRUTH[2:], ("table", "2") + TRUTH[2:], ("table", 2.0) + TRUTH[2:], ("table", (2,)) + TRUTH[2:],
    ("table", [2]) + TRUTH[2:], ("table", True) + ONE[2:],
    ("table", 2, None, (1, 0), ((0, 1), (0, 0))), ("table", 2, 0, (1, 0), ((0, 1), (0, 0))),
    ("table", 2, [0], (1, 0), ((0, 1), (0, 0))), ("table", 2, "0", (1, 0), ((0, 1), (0, 0))),
    ("table", 2, ("0",), (1, 0), ((0, 1), (0, 0))), ("table", 2, (None,), (1, 0), ((0, 1), (0, 0))),
    ("table", 2, (False,), (1, 0), ((0, 1), (0, 0))), ("table", 2, (True,), (1, 0), ((0, 1), (0, 0))),
    ("table", 2, (0.0,), (1, 0), ((0, 1), (0, 0))), ("table", 2, ((0,),), (1, 0), ((0, 1), (0, 0))),
    ("table", 2, {0}, (1, 0), ((0, 1), (0, 0))), ("table", 2, {}, (1, 0), ((0, 1), (0, 0))),
    ("table", 2, (0,), None, ((0, 1), (0, 0))), ("table", 2, (0,), [1, 0], ((0, 1), (0, 0))),
    ("table", 2, (0,), "10", ((0, 1), (0, 0))), ("table", 2, (0,), ("1", "0"), ((0, 1), (0, 0))),
    ("table", 2, (0,), (True, False), ((0, 1), (0, 0))), ("table", 2, (0,), (1, False), ((0, 1), (0, 0))),
    ("table", 2, (0,), (1, None), ((0, 1), (0, 0))), ("table", 2, (0,), (1.0, 0), ((0, 1), (0, 0))),
    ("table", 2, (0,), ((1,), (0,)), ((0, 1), (0, 0))), ("table", 2, (0,), {0: 1, 1: 0}, ((0, 1), (0, 0))),
    ("table", 2, (0,), (1, 0), None), ("table", 2, (0,), (1, 0), [(0, 1), (0, 0)]),
    ("table", 2, (0,), (1, 0), ([0, 1], (0, 0))), ("table", 2, (0,), (1, 0), ((0, 1), None)),
    ("table", 2, (0,), (1, 0), (0, 1)), ("table", 2, (0,), (1, 0), ("01", "00")),
    ("table", 2, (0,), (1, 0), ((0, True), (0, 0))), ("table", 2, (0,), (1, 0), ((0, 1), (False, 0))),
    ("table", 2, (0,), (1, 0), ((0, 1), (0, None))), ("table", 2, (0,), (1, 0), ((0, 1), (0, "0"))),
    ("table", 2, (0,), (1, 0), ((0, 1), (0, (0,)))), ("table", 2, (0,), (1, 0), ((0, 1.0), (0, 0))),
    ("table", 2, (0,), (1, 0), {0: (0, 1), 1: (0, 0)}),
]


def chance_table(rng, many):
    """A table with so many values; some values are designated, and the rule is often kept."""
    designated = tuple(x for x in range(many) if rng.random() < 0.4)
    rest = [x for x in range(many) if x not in designated] or list(range(many))
    ifs = tuple(tuple(rng.choice(rest) if x in designated and y not in designated and rng.random() < 0.8
                      else rng.randrange(many) for y in range(many)) for x in range(many))
    return ("table", many, designated, tuple(rng.randrange(many) for _ in range(many)), ifs)


class TestValue(unittest.TestCase):
    def test_letters_negations_and_conditionals(self):
        for x in range(4):
            self.assertEqual(value(FOUR, A, {"a": x}), x)
            self.assertEqual(value(FOUR, A0, {"a": 3 - x, "a0": x}), x)
            self.assertEqual(value(FOUR, no(Z9), {"z9": x}), (x + 1) % 4)
            self.assertEqual(value(FOUR, no(no(no(B))), {"b": x}), (x + 3) % 4)
            for y in range(4):
                self.assertEqual(value(FOUR, cond(A, B), {"a": x, "b": y}), FOUR[4][x][y])
                self.assertEqual(value(FOUR, cond(B, A), {"a": x, "b": y}), FOUR[4][y][x])
                self.assertEqual(value(FOUR, cond(no(A), B), {"a": x, "b": y}), FOUR[4][(x + 1) % 4][y])

    def test_a_value_is_a_whole_number(self):
        self.assertIs(type(value(TRUTH, cond(A, no(B)), {"a": 0, "b": 0, "c": 1})), int)

    def test_against_a_walk(self):
        rng = random.Random(11)
        for _ in range(500):
            table = chance_table(rng, rng.randint(1, 4))
            formula = chance_formula(rng, rng.randint(1, 40), ["a", "b", "c", "z9"])
            values = {name: rng.randrange(table[1]) for name in ["a", "b", "c", "z9", "d"]}
            self.assertEqual(value(table, formula, values), value_in(table, formula, values))


class TestIsKept(unittest.TestCase):
    def test_truth(self):
        for k in PATTERNS:
            self.assertIs(is_kept(TRUTH, PATTERNS[k]), True)
        self.assertIs(is_kept(TRUTH, cond(cond(cond(A, B), A), A)), True)
        for formula in (A, no(A), cond(A, B), cond(A, no(A)), no(cond(A, A)), cond(cond(A, B), B)):
            self.assertIs(is_kept(TRUTH, formula), False)

    def test_one_value(self):
        self.assertIs(is_kept(ONE, no(cond(A, A))), True)
        self.assertIs(is_kept(NONE, cond(A, A)), False)
        self.assertIs(is_kept(NONE, A), False)
        self.assertIs(is_kept(TABLES[-2], no(A)), True)

    def test_one_way_breaks_it(self):
        # Conditionals are worth 0, but for one condition and one consequence.
        for many in (2, 3, 4):
            for x, y in itertools.product(range(many), repeat=2):
                ifs = tuple(tuple(1 if (first, second) == (x, y) else 0 for second in range(many))
                            for first in range(many))
                table = ("table", many, (0,), (0,) * many, ifs)
                self.assertIs(is_kept(table, cond(A, B)), False)
                self.assertIs(is_kept(table, cond(A, A)), x != y)
                self.assertIs(is_kept(table, no(cond(A, B))), True)
                with_it = ("table", many, (0, 1), (0,) * many, ifs)
                self.assertIs(is_kept(with_it, cond(A, B)), True)

    def test_six_letters_and_one_way(self):
        many = 2
        formula = cond(A, B, C, D, ("letter", "e"), ("letter", "f"))
        self.assertIs(is_kept(TRUTH, formula), False)
        self.assertIs(is_kept(TRUTH, cond(formula, formula)), True)
        self.assertIs(is_kept(("table", many, (0, 1), (1, 0), ((0, 1), (0, 0))), formula), True)

    def test_against_a_walk(self):
        rng = random.Random(12)
        found = {True: 0, False: 0}
        for _ in range(1500):
            table = chance_table(rng, rng.randint(1, 4))
            formula = chance_formula(rng, rng.randint(1, 12), ["a", "b", "c"])
            kept = does_keep(table, formula)
            self.assertIs(is_kept(table, formula), kept)
            found[kept] += 1
        self.assertGreater(min(found.values()), 100)

    def test_time_up_to_the_bounds(self):
        rng = random.Random(13)
        formula = chance_formula(rng, 400, list("abcdef"))
        self.assertEqual(len(names_in(formula)), 6)
        start = time.perf_counter()
        self.assertIs(is_kept(("table", 4, (0, 1, 2, 3)) + FOUR[3:], formula), True)
        self.assertLess(time.perf_counter() - start, 5)


class TestKeepsRule(unittest.TestCase):
    def test_both_ways(self):
        self.assertIs(keeps_rule(TRUTH), True)
        self.assertIs(keeps_rule(THREE), True)
        self.assertIs(keeps_rule(ONE), True)
        self.assertIs(keeps_rule(NONE), True)
        self.assertIs(keeps_rule(("table", 2, (0,), (1, 0), ((0, 0), (0, 0)))), False)
        self.assertIs(keeps_rule(("table", 2, (1,), (1, 0), ((1, 1), (1, 1)))), False)
        self.assertIs(keeps_rule(("table", 2, (1,), (1, 0), ((1, 1), (0, 1)))), True)

    def test_one_place_breaks_it(self):
        for many in (2, 3, 4):
            for x, y in itertools.product(range(many), repeat=2):
                ifs = tuple(tuple(0 if (first, second) == (x, y) else 1 for second in range(many))
                            for first in range(many))
                table = ("table", many, (0,), (0,) * many, ifs)
                self.assertIs(keeps_rule(table), x != 0 or y == 0)

    def test_against_a_walk(self):
        rng = random.Random(14)
        found = {True: 0, False: 0}
        for _ in range(2000):
            table = chance_table(rng, rng.randint(1, 4))
            kept = does_keep_rule(table)
            self.assertIs(keeps_rule(table), kept)
            found[kept] += 1
        self.assertGreater(min(found.values()), 100)


class TestIsTable(unittest.TestCase):
    def test_right_tables(self):
        for table in TABLES:
            with self.subTest(table=table):
                self.assertIs(is_table(table), True)

    def test_tables_by_chance(self):
        rng = random.Random(15)
        for _ in range(300):
            self.assertIs(is_table(chance_table(rng, rng.randint(1, 4))), True)

    def test_no_tables(self):
        for table in NO_TABLES:
            with self.subTest(table=table):
                self.assertIs(is_table(table), False)

    def test_one_place_changed(self):
        for table in (TRUTH, THREE, FOUR):
            for wrong in (None, -1, table[1], "0", True, (0,), [], 0.0):
                for at in range(table[1]):
                    nots = table[3][:at] + (wrong,) + table[3][at + 1:]
                    self.assertIs(is_table(table[:3] + (nots, table[4])), False)
                    row = table[4][at][:at] + (wrong,) + table[4][at][at + 1:]
                    self.assertIs(is_table(table[:4] + (table[4][:at] + (row,) + table[4][at + 1:],)), False)
                    ifs = table[4][:at] + (wrong,) + table[4][at + 1:]
                    self.assertIs(is_table(table[:4] + (ifs,)), False)


class TestParts(unittest.TestCase):
    def test_a_table_that_is_one(self):
        table = ("table", 2, (0,), (0, 0), ((0, 1), (0, 0)))
        self.assertIs(parts(table, (1, 2, 3, 4, 6), PATTERNS[5]), True)
        self.assertIs(parts(table, (), PATTERNS[5]), True)
        self.assertIs(parts(TRUTH, (1, 2, 3, 4, 5, 6), A), True)
        self.assertIs(parts(TRUTH, (6, 5, 4), cond(A, B)), True)

    def test_the_formula_is_kept(self):
        self.assertIs(parts(TRUTH, (1, 2, 3, 4, 5, 6), cond(A, A)), False)
        self.assertIs(parts(TRUTH, (), PATTERNS[1]), False)
        self.assertIs(parts(ONE, (), A), False)

    def test_one_of_the_axioms_is_not_kept(self):
        table = ("table", 2, (0,), (0, 0), ((0, 1), (0, 0)))
        for axioms in ((5,), (1, 5), (5, 1), (1, 2, 3, 4, 5, 6), (1, 2, 5, 6)):
            self.assertIs(parts(table, axioms, A), False)
        self.assertIs(parts(table, (1, 2, 3, 4, 6), A), True)

    def test_the_rule_is_not_kept(self):
        table = ("table", 2, (0,), (0, 0), ((0, 0), (0, 0)))
        for k in PATTERNS:
            self.assertIs(is_kept(table, PATTERNS[k]), True)
        self.assertIs(parts(table, (1, 2, 3, 4, 5, 6), A), False)
        self.assertIs(parts(table, (), A), False)

    def test_no_axioms(self):
        self.assertIs(parts(NONE, (), PATTERNS[1]), True)
        self.assertIs(parts(NONE, (1,), PATTERNS[1]), False)
        self.assertIs(parts(NONE, (1,), A), False)

    def test_what_is_no_table(self):
        for table in NO_TABLES:
            for axioms in ((), (1,)):
                with self.subTest(table=table):
                    self.assertIs(parts(table, axioms, A), False)

    def test_against_a_walk(self):
        rng = random.Random(16)
        found = {True: 0, False: 0}
        for _ in range(4000):
            table = chance_table(rng, rng.randint(1, 3))
            axioms = tuple(rng.sample(range(1, 7), rng.choice((0, 0, 1, 1, 2, 3))))
            formula = chance_formula(rng, rng.randint(1, 10), ["a", "b"])
            right = stands_apart(table, axioms, formula)
            self.assertIs(parts(table, axioms, formula), right)
            found[right] += 1
        self.assertGreater(min(found.values()), 100)


if __name__ == "__main__":
    unittest.main()
