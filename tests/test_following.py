"""Promises v1, v2 and the interface under conceptscript/following.py."""

import itertools
import random
import time
import unittest

from conceptscript.following import follows, judge, least_sets, strongest
from conceptscript.formulas import put
from conceptscript.texts import read
from samples import A, B, C, CHAIN, D, HYPOTHESIS, SELF, chance_formula, cond, formulas_up_to, no
from walks import AXIOMS_OF, PATTERNS, all_rows, is_right_paper, truth

STRENGTHS = ("positive", "minimal", "full")

# Hypotheses, a formula, and the strengths for which it follows.
CASES = [
    ("", "a -> a", "positive minimal full"),
    ("a", "a", "positive minimal full"),
    ("a; b; c", "b", "positive minimal full"),
    ("~a", "~a", "positive minimal full"),
    ("a -> b; a", "b", "positive minimal full"),
    ("a -> b; b -> c", "a -> c", "positive minimal full"),
    ("a -> b; b -> c; a", "c", "positive minimal full"),
    ("a; a", "b -> a", "positive minimal full"),
    ("a -> b -> c; b", "a -> c", "positive minimal full"),
    ("(a -> b) -> c; b", "c", "positive minimal full"),
    ("a -> b; a -> b; a; a", "b", "positive minimal full"),
    ("~a; ~a -> b", "b", "positive minimal full"),
    ("a", "~~a", "minimal full"),
    ("a -> b; ~b", "~a", "minimal full"),
    ("a -> ~b; b", "~a", "minimal full"),
    ("a -> ~a", "~a", "minimal full"),
    ("a; ~a", "~b", "minimal full"),
    ("a; ~a", "b", "full"),
    ("a -> b; a -> ~b", "~a", "minimal full"),
    ("~a -> b; ~a -> ~b", "~~a", "minimal full"),
    ("~a -> b; ~a -> ~b", "a", "full"),
    ("~~~a; b", "~a", "minimal full"),
    ("~~a", "a", "full"),
    ("(a -> b) -> a", "a", "full"),
    ("~a -> a", "a", "full"),
    ("~(a -> b)", "a", "full"),
    ("~(a -> b)", "~b", "minimal full"),
    ("a -> b; ~a -> b", "b", "full"),
    ("a -> b; ~a -> b", "~~b", "minimal full"),
    ("~(a -> a)", "b", "full"),
    ("~(a -> a)", "~b", "minimal full"),
    ("~(a -> a); b", "~~~c", "minimal full"),
    ("a", "b", ""),
    ("a -> b; b", "a", ""),
    ("a -> b; ~a", "~b", ""),
    ("a -> b; b -> c; c", "a", ""),
    ("~a; ~b", "~(a -> b)", ""),
    ("", "a", ""),
]

# Hypotheses and a formula up to the bounds; those of many made by chance that took the prover longest.
HARD = [
    ("~a -> (b -> ~a -> a) -> c", "(((a -> c) -> c) -> b) -> (b -> a) -> b"),
    ("~((~a -> a) -> b); ~~(a -> ~~(~b -> a -> ~~b))", "~~b"),
    ("~(~~(a -> ~~~~(b -> ~b)) -> ~~~a)", "~~~~~b"),
    ("~~~~~~~~~~~(a -> ~a) -> ~b", "b -> ~~~a"),
    ("~a -> a", "~~~~(~~~~~b -> ~(~(a -> b) -> ~~b))"),
    ("~~~~(a -> ~a); ~~~~(~a -> ~~~a); ~a -> a", "a"),
    ("~a -> ~a", "~~(a -> ~(~~~b -> ~~~~~a) -> ~a)"),
    ("~(~a -> ~(~b -> ~(a -> c))); ~(c -> a)", "~~~~~~~b"),
    ("~(b -> (~a -> ~a) -> ~b)", "~~((a -> a) -> (a -> b -> b) -> a)"),
    ("((b -> a) -> a) -> a; (a -> b) -> b; (~a -> a) -> a; ~b -> ~a", "a"),
    ("b; a -> a; (b -> a -> ~a) -> b -> b -> a", "b -> (b -> ~a) -> a"),
    ("(c -> b) -> ~b; ~b -> ~((a -> b) -> c)", "(c -> a) -> ~(~a -> a)"),
    ("(a -> b) -> c; (b -> c) -> a; (c -> a) -> b; ~~a -> ~b", "~c"),
    ("((a -> b) -> c) -> a; ((b -> c) -> a) -> b; ((c -> a) -> b) -> c", "a"),
]


def parts_of(text):
    return tuple(read(part) for part in text.split(";") if part)


def chance_case(rng, total):
    """Up to four hypotheses and a formula whose sizes are so great together."""
    many = rng.randint(0, 4)
    cuts = [0, *sorted(rng.sample(range(1, total), many)), total]
    names = ["a", "b", "c"][:rng.randint(1, 3)]
    formulas = [chance_formula(rng, end - start, names) for start, end in itertools.pairwise(cuts)]
    return tuple(formulas[:-1]), formulas[-1]


class TestFollows(unittest.TestCase):
    def assert_paper(self, assumed, formula, strength):
        paper = follows(assumed, formula, strength)
        self.assertTrue(is_right_paper(paper, assumed, formula, strength), (assumed, formula, strength, paper))
        self.assertIs(judge(assumed, formula, strength, paper), True)
        return paper[0] == "proof"

    def test_cases(self):
        for assumed, text, strengths in CASES:
            for strength in STRENGTHS:
                with self.subTest(assumed=assumed, text=text, strength=strength):
                    found = self.assert_paper(parts_of(assumed), read(text), strength)
                    self.assertIs(found, strength in strengths.split())

    def test_the_example_of_the_document(self):
        self.assertEqual(follows((), read("a -> b"), "full"), ("counter", ("row", ("a",))))

    def test_letters_of_the_hypotheses_stand_in_rows(self):
        self.assertEqual(follows((A,), B, "full"), ("counter", ("row", ("a",))))
        self.assertEqual(follows((D, no(C)), no(A), "full"), ("counter", ("row", ("a", "d"))))

    def test_by_chance_up_to_the_bounds(self):
        rng = random.Random(91)
        many = {}
        for _ in range(1200):
            assumed, formula = chance_case(rng, rng.randint(12, 24))
            found = tuple(self.assert_paper(assumed, formula, strength) for strength in STRENGTHS)
            self.assertEqual(list(found), sorted(found))
            many[found] = many.get(found, 0) + 1
        self.assertEqual(len(many), 4)
        self.assertGreater(min(many.values()), 30)

    def test_all_small_ones_with_one_hypothesis(self):
        for assumed in formulas_up_to(4, (A, B)):
            for formula in formulas_up_to(4, (A, B)):
                found = [self.assert_paper((assumed,), formula, strength) for strength in STRENGTHS]
                self.assertEqual(found[2], all(truth(formula, row) or not truth(assumed, row)
                                               for row in all_rows("ab")))

    def test_with_the_formula_whose_negation_the_provers_take_for_the_absurd(self):
        for text in ("a -> a -> a", "~(a -> a -> a)", "~~(a -> a -> a)"):
            table = {"b": read(text)}
            for formula in formulas_up_to(5, (A, B)):
                for strength in STRENGTHS:
                    self.assert_paper((), put(formula, table), strength)
                    self.assert_paper((table["b"],), formula, strength)

    def test_as_the_conditional(self):
        rng = random.Random(92)
        for _ in range(200):
            assumed, formula = chance_case(rng, 16)
            for strength in STRENGTHS:
                self.assertEqual(self.assert_paper(assumed, formula, strength),
                                 self.assert_paper((), cond(*assumed, formula), strength))

    def test_time(self):
        for assumed, text in HARD:
            for strength in STRENGTHS:
                with self.subTest(assumed=assumed, text=text, strength=strength):
                    start = time.perf_counter()
                    self.assert_paper(parts_of(assumed), read(text), strength)
                    self.assertLess(time.perf_counter() - start, 2)


AXIOM_5 = cond(no(no(A)), A)
PEIRCE = cond(cond(cond(A, B), A), A)
CHAINED = (cond(A, B), A, cond(B, C))
ONE_WORLD = ("model", ((0,),), ((A,),), ())
TWO_WORLDS = ("model", ((0, 1), (1,)), ((), (A,)), ())

# Values that are no papers, whatever they are asked for.
NO_PAPERS = [
    None, 0, 1, True, "", "proof", "counter", (), [], {}, object(), 1.5, b"proof",
    ("proof",), ("counter",), ("proof", None), ("counter", None), ("proof", ()), ("counter", ()),
    ("proof", 1), ("counter", 1), ("proof", "a -> a"), ("counter", "row"), ("proof", SELF, SELF), ("proof", SELF, ()),
    ["proof", SELF], ("Proof", SELF), (None, SELF), (SELF, "proof"), SELF, (SELF,), ("proof", (SELF,)),
    ("proof", list(SELF)), ("proof", [list(line) for line in SELF]), ("proof", tuple(list(line) for line in SELF)),
    ("counter", SELF), ("proof", ("row", ())), ("row", ()), ("model", ((0,),), ((),), ()),
    ("counter", ("row",)), ("counter", ("row", None)), ("counter", ("row", "a")), ("counter", ("row", ["a"])),
    ("counter", ("row", 0)), ("counter", ["row", ()]), ("counter", ("Row", ())), ("counter", (None, ())),
    ("counter", ("row", (), ())), ("counter", ("row", (None,))), ("counter", ("row", (1,))),
    ("counter", ("row", (("a",),))), ("counter", ("row", (A,))), ("counter", ("row", ("A",))),
    ("counter", ("row", (True,))), ("counter", ("row", {"a"})), ("counter", ("row", (1, "a"))),
    ("counter", ("row", ("a", None))), ("counter", ("row", ("b", 1, "a"))),
    ("counter", ("model",)), ("counter", ("model", ((0,),), ((),))), ("counter", ("model", ((False,),), ((),), ())),
    ("counter", ("model", None, None, None)), ("counter", ["model", ((0,),), ((),), ()]),
    ("counter", ("model", (), (), ())), ("counter", (("model", ((0,),), ((),), ()),)),
]

# Lines behind SELF that make a proof of SELF's formula no proof, in one way or another.
NO_LINES = [
    None, 0, "line", (), [], (cond(A, A),), (cond(A, A), ("hypothesis",), ()), (cond(A, A), None),
    (cond(A, A), ()), (cond(A, A), ("hypothesis", 1)), (cond(A, A), ["hypothesis"]), (cond(A, A), "hypothesis"),
    (cond(A, A), ("Hypothesis",)), (cond(A, A), ("axiom",)), (cond(A, A), ("axiom", None)),
    (cond(A, A), ("axiom", "1")), (cond(A, A), ("axiom", 1, 2)), (cond(A, A), ("axiom", 1.0)),
    (cond(A, A), ("axiom", 1)), (cond(A, A), ("axiom", 7)), (cond(A, A), ("axiom", (1,))),
    (cond(A, A), ("detach", 2)), (cond(A, A), ("detach", 2, 3, 4)), (cond(A, A), ("detach", 2, None)),
    (cond(A, A), ("detach", "2", 3)), (cond(A, A), ("detach", 2.0, 3)), (cond(A, A), ("detach", [2], 3)),
    (cond(A, A), ("detach", 2, 5)), (cond(A, A), ("detach", -3, 3)), (cond(A, A), ("detach", 3, 2)),
    (cond(A, A), ("rule", "self")), (cond(A, A), (None, 2, 3)), (cond(A, A), (("detach",), 2, 3)),
    (cond(A, A), ["detach", 2, 3]), (None, ("axiom", 1)), ("a -> a", ("detach", 2, 3)), (A, ("detach", 2, 3)),
    ((), ("detach", 2, 3)), (("if",), ("detach", 2, 3)), (("if", A), ("detach", 2, 3)),
    (("if", A, None), ("detach", 2, 3)), (["if", A, A], ("detach", 2, 3)), (("if", "a", "a"), ("detach", 2, 3)),
    (("if", ["letter", "a"], A), ("detach", 2, 3)), (("if", A, A, A), ("detach", 2, 3)),
    (("if", ("letter", 1), A), ("detach", 2, 3)), (("if", ("letter", "a "), A), ("detach", 2, 3)),
    (("or", A, A), ("detach", 2, 3)), ((None, A, A), ("detach", 2, 3)),
]


class TestJudge(unittest.TestCase):
    def assert_judged(self, paper, assumed, formula, strengths):
        for strength in STRENGTHS:
            with self.subTest(paper=paper, strength=strength):
                self.assertIs(judge(assumed, formula, strength, paper), strength in strengths.split())

    def test_right_proofs(self):
        self.assert_judged(("proof", SELF), (), cond(A, A), "positive minimal full")
        self.assert_judged(("proof", SELF), (B, no(B)), cond(A, A), "positive minimal full")
        self.assert_judged(("proof", CHAIN), CHAINED, C, "positive minimal full")
        self.assert_judged(("proof", CHAIN), (D, *CHAINED[::-1], D), C, "positive minimal full")
        self.assert_judged(("proof", ((A, HYPOTHESIS),)), (A, A), A, "positive minimal full")

    def test_axioms_of_another_strength(self):
        for k, formula in PATTERNS.items():
            strengths = " ".join(strength for strength in STRENGTHS if k in AXIOMS_OF[strength])
            self.assert_judged(("proof", ((formula, ("axiom", k)),)), (), formula, strengths)
            # Also where nothing needs the line.
            line = (formula, ("axiom", k))
            self.assert_judged(("proof", (line, (A, HYPOTHESIS))), (A,), A, strengths)

    def test_another_formula_and_other_hypotheses(self):
        self.assert_judged(("proof", SELF), (), cond(B, B), "")
        self.assert_judged(("proof", SELF), (), A, "")
        self.assert_judged(("proof", SELF), (cond(A, A),), SELF[0][0], "")
        self.assert_judged(("proof", CHAIN), CHAINED, B, "")
        for assumed in itertools.combinations(CHAINED, 2):
            self.assert_judged(("proof", CHAIN), assumed, C, "")
        self.assert_judged(("proof", CHAIN), (), C, "")
        # A hypothesis that is not given, though nothing needs its line.
        self.assert_judged(("proof", ((B, HYPOTHESIS), (A, HYPOTHESIS))), (A,), A, "")

    def test_proofs_with_a_fault(self):
        self.assert_judged(("proof", ((A, ("axiom", 1)),)), (A,), A, "")
        self.assert_judged(("proof", (*CHAIN[:-1], (C, ("detach", 2, 3)))), CHAINED, C, "")
        self.assert_judged(("proof", (*CHAIN[:-1], (C, ("detach", 3, 1)))), CHAINED, C, "")
        self.assert_judged(("proof", ((cond(A, A), ("detach", 0, 0)),)), (), cond(A, A), "")
        self.assert_judged(("proof", ((PEIRCE, ("axiom", 9)),)), (), PEIRCE, "")
        # In a line that nothing needs.
        self.assert_judged(("proof", ((B, ("axiom", 1)), (A, HYPOTHESIS))), (A, B), A, "")

    def test_right_rows(self):
        for row, assumed, formula in [
            ((), (), A),
            (("a",), (), cond(A, B)),
            (("a",), (A,), B),
            (("b",), (no(A),), cond(B, A)),
            (("a", "c"), (A, C), B),
            (("a",), (cond(B, A),), no(A)),
            (("a", "b"), (cond(B, A),), no(A)),
        ]:
            self.assert_judged(("counter", ("row", row)), assumed, formula, "full")

    def test_kinds_of_papers(self):
        for kind in ("Counter", "counters", "row", "model", "", None, 1, ("counter",)):
            self.assert_judged((kind, ("row", ())), (), A, "")
            self.assert_judged((kind, ONE_WORLD), (), B, "")
        for kind in ("Proof", "proofs", "counter", "", None, 0, ("proof",)):
            self.assert_judged((kind, SELF), (), cond(A, A), "")

    def test_wrong_rows(self):
        for row, assumed, formula in [
            (("a",), (), A),
            ((), (), cond(A, B)),
            (("b",), (A,), B),
            ((), (A,), B),
            (("a",), (A, C), B),
            (("a",), (), PEIRCE),
            (("b",), (), A),
            (("a", "c"), (), cond(A, B)),
            (("a0",), (), A),
            (("b", "a"), (A, B), C),
            (("a", "a"), (A,), B),
            (("a", "b", "b"), (A, B), C),
        ]:
            self.assert_judged(("counter", ("row", row)), assumed, formula, "")

    def test_right_models(self):
        self.assert_judged(("counter", ONE_WORLD), (), B, "positive minimal")
        self.assert_judged(("counter", ONE_WORLD), (A,), cond(A, B), "positive minimal")
        self.assert_judged(("counter", TWO_WORLDS), (), PEIRCE, "positive minimal")
        self.assert_judged(("counter", TWO_WORLDS), (no(no(A)),), A, "minimal")
        self.assert_judged(("counter", TWO_WORLDS), (), no(no(A)), "positive")
        self.assert_judged(("counter", ("model", ((0,),), ((no(no(A)),),), ())), (no(no(A)),), A, "positive")
        self.assert_judged(("counter", ("model", ((0,),), ((A,),), (0,))), (A, no(A)), B, "minimal")
        self.assert_judged(("counter", ("model", ((0,),), ((A, no(A)),), ())), (A, no(A)), B, "positive")

    def test_wrong_models(self):
        # The formula holds in world 0, or a hypothesis does not.
        self.assert_judged(("counter", ONE_WORLD), (), A, "")
        self.assert_judged(("counter", ONE_WORLD), (), PEIRCE, "")
        self.assert_judged(("counter", ONE_WORLD), (A, C), B, "")
        self.assert_judged(("counter", TWO_WORLDS), (A,), B, "")
        self.assert_judged(("counter", TWO_WORLDS), (), cond(B, A), "")
        # It does not hold in another world alone.
        self.assert_judged(("counter", ("model", ((0,), (0, 1)), ((A,), ()), ())), (), A, "")
        # What is no model.
        for model in [
            ("model", ((0, 1), (1,)), ((A,), ()), ()),
            ("model", ((0,),), ((A, A),), ()),
            ("model", ((0, 1), (1,)), ((A,), (A,)), (0,)),
            ("model", ((0, 1), ()), ((A,), (A,)), ()),
            ("model", ((0,),), ((A, cond(A, A)),), ()),
            ("model", ((0,),), ((A,), ()), ()),
        ]:
            self.assert_judged(("counter", model), (A,), B, "")

    def test_whatever_else(self):
        for paper in NO_PAPERS:
            self.assert_judged(paper, (), A, "")
            self.assert_judged(paper, (), cond(A, B), "")
            self.assert_judged(paper, (cond(A, A),), cond(A, A), "")

    def test_lines_that_are_none(self):
        itself = cond(A, A)
        for line in NO_LINES:
            self.assert_judged(("proof", (*SELF[:4], line)), (itself,), itself, "")
            self.assert_judged(("proof", (*SELF, line)), (itself,), itself, "")
            self.assert_judged(("proof", (line, (itself, HYPOTHESIS))), (itself,), itself, "")

    def test_formulas_that_are_none(self):
        for formula in (None, "a", 1, (), ("a",), ("letter",), ("letters", "a"), (None, "a"), ("letter", "A"),
                        ("letter", "a", "b"), ("not",), ("not", "a"), ("not", A, A), ("if", A), ("if", A, A, A),
                        ("or", A, A), ["letter", "a"], ("letter", 1), ("letter", ("a",))):
            lines = ((cond(formula, B, formula), ("axiom", 1)), (A, HYPOTHESIS))
            self.assert_judged(("proof", lines), (A,), A, "")

    def test_true_and_false_are_no_numbers(self):
        axiom = (cond(A, B, A), ("axiom", True))
        self.assert_judged(("proof", (axiom,)), (), cond(A, B, A), "")
        lines = ((A, HYPOTHESIS), (cond(A, B), HYPOTHESIS))
        for i, j in ((1, 0), (True, 0), (1, False), (True, False)):
            paper = ("proof", (*lines, (B, ("detach", i, j))))
            right = not isinstance(i, bool) and not isinstance(j, bool)
            self.assert_judged(paper, (A, cond(A, B)), B, "positive minimal full" if right else "")

    def test_papers_of_other_questions(self):
        rng = random.Random(93)
        many = {True: 0, False: 0}
        for _ in range(300):
            assumed, formula = chance_case(rng, 12)
            other_assumed, other = chance_case(rng, 8)
            for strength in STRENGTHS:
                paper = follows(assumed, formula, strength)
                for question in ((assumed, other), (other_assumed, formula), (other_assumed, other),
                                 (assumed[1:], formula), (assumed + other_assumed, formula)):
                    for asked in STRENGTHS:
                        right = is_right_paper_for(paper, *question, asked)
                        self.assertIs(judge(*question, asked, paper), right)
                        many[right] += 1
        self.assertGreater(min(many.values()), 500)


def is_right_paper_for(paper, assumed, formula, strength):
    """Whether a right paper of another question is right, with a look at its kind before."""
    if paper[0] == "counter" and (paper[1][0] == "row") != (strength == "full"):
        return False
    return is_right_paper(paper, assumed, formula, strength)


class TestLeastSets(unittest.TestCase):
    def assert_least(self, assumed, text, strength, sets):
        with self.subTest(assumed=assumed, text=text, strength=strength):
            self.assertEqual(least_sets(parts_of(assumed), read(text), strength), sets)

    def test_hypotheses_that_are_not_needed(self):
        for strength in STRENGTHS:
            self.assert_least("a; a -> b; c", "b", strength, ((0, 1),))
            self.assert_least("c; b; a -> c; a", "b", strength, ((1,),))
            self.assert_least("a; a -> b; b -> c", "c", strength, ((0, 1, 2),))

    def test_several_least_sets_in_the_order_of_the_tuples(self):
        for strength in STRENGTHS:
            self.assert_least("a; a -> b; b", "b", strength, ((0, 1), (2,)))
            self.assert_least("b; a; a -> b", "b", strength, ((0,), (1, 2)))
            self.assert_least("a -> c; a; b; b -> c", "c", strength, ((0, 1), (2, 3)))
            self.assert_least("a -> c; a; b -> c; b", "c", strength, ((0, 1), (2, 3)))
            self.assert_least("a; c; a -> b; c -> b", "b", strength, ((0, 2), (1, 3)))
            self.assert_least("a -> c; a -> b; b -> c; a", "c", strength, ((0, 3), (1, 2, 3)))

    def test_the_empty_set(self):
        for strength in STRENGTHS:
            self.assert_least("", "a -> a", strength, ((),))
            self.assert_least("a; b", "a -> a", strength, ((),))
        self.assert_least("a; b", "(a -> ~a) -> ~a", "minimal", ((),))
        self.assert_least("a; b", "((a -> b) -> a) -> a", "full", ((),))

    def test_a_hypothesis_that_stands_twice(self):
        for strength in STRENGTHS:
            self.assert_least("a; a", "a", strength, ((0,), (1,)))
            self.assert_least("a; a -> b; a", "b", strength, ((0, 1), (1, 2)))

    def test_none(self):
        for strength in STRENGTHS:
            self.assert_least("", "a", strength, ())
            self.assert_least("a; b -> c", "c", strength, ())
        self.assert_least("~~a; b", "a", "positive", ())
        self.assert_least("~~a; b", "a", "minimal", ())

    def test_the_strengths_differ(self):
        self.assert_least("a -> b; ~a -> b; b", "b", "full", ((0, 1), (2,)))
        self.assert_least("a -> b; ~a -> b; b", "b", "minimal", ((2,),))
        self.assert_least("a; ~a; c -> ~b; c", "~b", "full", ((0, 1), (2, 3)))
        self.assert_least("a; ~a; c -> ~b; c", "~b", "minimal", ((0, 1), (2, 3)))
        self.assert_least("a; ~a; c -> ~b; c", "~b", "positive", ((2, 3),))

    def test_against_all_sets(self):
        rng = random.Random(94)
        many = {}
        for _ in range(150):
            assumed, formula = chance_case(rng, rng.randint(10, 20))
            if rng.random() < 0.5 and assumed:
                formula = chance_formula(rng, rng.randint(1, 2), ["a", "b"])
            for strength in STRENGTHS:
                enough = [places for many_places in range(len(assumed) + 1)
                          for places in itertools.combinations(range(len(assumed)), many_places)
                          if follows(tuple(assumed[at] for at in places), formula, strength)[0] == "proof"]
                least = [places for places in enough if not any(set(part) < set(places) for part in enough)]
                found = least_sets(assumed, formula, strength)
                self.assertEqual(found, tuple(sorted(least)))
                many[len(found)] = True
        self.assertGreater(len(many), 2)

    def test_time(self):
        for assumed, text in HARD:
            for strength in STRENGTHS:
                start = time.perf_counter()
                least_sets(parts_of(assumed), read(text), strength)
                self.assertLess(time.perf_counter() - start, 2)


class TestStrongest(unittest.TestCase):
    def test_formulas_of_each_strength(self):
        for text, strength in [
            ("a -> a", "positive"),
            ("a -> b -> a", "positive"),
            ("~a -> ~a", "positive"),
            ("((((a -> b) -> a) -> a) -> b) -> b", "positive"),
            ("a -> ~~a", "minimal"),
            ("(a -> b) -> ~b -> ~a", "minimal"),
            ("(a -> ~a) -> ~a", "minimal"),
            ("~~~a -> ~a", "minimal"),
            ("a -> ~a -> ~b", "minimal"),
            ("((a -> b) -> a) -> a", "full"),
            ("~~a -> a", "full"),
            ("a -> ~a -> b", "full"),
            ("~~(~~a -> a)", "full"),
            ("a -> b", None),
            ("a", None),
            ("~a", None),
            ("~(a -> a)", None),
            ("(a -> b) -> b -> a", None),
        ]:
            with self.subTest(text=text):
                self.assertEqual(strongest(read(text)), strength)

    def test_axioms(self):
        for k, formula in PATTERNS.items():
            wanted = "positive" if k in (1, 2, 3) else "full" if k == 5 else "minimal"
            self.assertEqual(strongest(formula), wanted)

    def test_as_follows_tells(self):
        rng = random.Random(95)
        for _ in range(300):
            formula = chance_formula(rng, rng.randint(3, 14), ["a", "b", "c"])
            found = [strength for strength in STRENGTHS if follows((), formula, strength)[0] == "proof"]
            self.assertEqual(strongest(formula), found[0] if found else None)


if __name__ == "__main__":
    unittest.main()
