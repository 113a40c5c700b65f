"""Promises c10, b1, b2 and the interface under conceptscript/books.py."""

import random
import unittest

from conceptscript.books import check_book, unfolded, uses
from conceptscript.errors import BookFault, DrawingFault, ProofFault, ScriptError, TextFault
from conceptscript.formulas import put, size
from conceptscript.proofs import check, hypotheses, proved
from conceptscript.shaping import trimmed
from conceptscript.texts import read
from samples import A, B, C, D, SELF, Z9, chance_formula, cond, no
from walks import PATTERNS, is_instance, is_proof, named_in_order, names_in, put_for, unified

ALL = (1, 2, 3, 4, 5, 6)


def rule(name):
    return ("rule", name)


def line(text, *why):
    """A line: the reason is a number for an axiom, two for a detachment, or a rule's name."""
    if len(why) == 2:
        return (read(text), ("detach", *why))
    return (read(text), ("axiom", why[0]) if isinstance(why[0], int) else rule(why[0]))


# a -> a; then from any two conditionals nothing is assumed, so all entries are theorems.
ITSELF = ("itself", SELF)
TWICE = ("twice", (line("~a -> ~a", "itself"), line("(~a -> ~a) -> ~~(~a -> ~a)", 6), line("~~(~a -> ~a)", 1, 0)))
RAISED = ("raised", (
    line("b -> b", "itself"),
    line("(b -> b) -> a -> b -> b", 1),
    line("a -> b -> b", 1, 0),
))
BOTH = ("both", (
    line("~~(~c -> ~c)", "twice"),
    line("c -> (c -> c) -> c -> c", "raised"),
    line("~~(~(a -> b) -> ~(a -> b))", "twice"),
    line("~~(~c -> ~c) -> d -> ~~(~c -> ~c)", 1),
    line("d -> ~~(~c -> ~c)", 3, 0),
))
BOOK = (ITSELF, TWICE, RAISED, BOTH)

# Books with their first fault: its entry, its line and its reason.
FAULTS = [
    # Each of the reasons, alone.
    (((ITSELF), ("itself", SELF)), (1, 0, "name stands twice")),
    ((("x", ()),), (0, 0, "empty")),
    ((("x", (line("a -> b -> a", 7),)),), (0, 0, "unknown axiom")),
    ((("x", (line("a -> b -> a", 0),)),), (0, 0, "unknown axiom")),
    ((("x", (line("a -> b -> b", 1),)),), (0, 0, "no instance")),
    ((("x", (line("a", 0, 0),)),), (0, 0, "line not before")),
    ((("x", (line("a -> ~~a", 6), line("a", -1, 0))),), (0, 1, "line not before")),
    ((("x", (line("a -> ~~a", 6), line("a", 0, 1))),), (0, 1, "line not before")),
    ((ITSELF, ("x", (line("~~(~a -> ~a)", "itself"),))), (1, 0, "no instance")),
    ((ITSELF, TWICE, ("x", (line("~~(~a -> ~a)", "twice"), line("a", 0, 0)))), (2, 1, "no conditional")),
    ((("x", (line("a -> ~~a", 6), line("~~a", 0, 0))),), (0, 1, "other condition")),
    ((("x", (line("(a -> ~~a) -> ~~(a -> ~~a)", 6), line("a -> ~~a", 6), line("~~(a -> ~a)", 0, 1))),),
     (0, 2, "other consequence")),
    ((ITSELF, ("x", (line("a -> a", "y"),))), (1, 0, "no rule")),
    ((("x", ((A, ("hypothesis",)),)),), (0, 0, "hypothesis")),
    # A rule of a later entry, of the entry itself and of none.
    ((TWICE, ITSELF), (0, 0, "no rule")),
    ((("x", (line("a -> a", "x"),)),), (0, 0, "no rule")),
    ((("x", SELF + (line("a -> a", "x"),)), ITSELF), (0, 5, "no rule")),
    ((ITSELF, ("x", (line("a -> a", ""),))), (1, 0, "no rule")),
    ((ITSELF, ("x", (line("a -> a", "Itself"),))), (1, 0, "no rule")),
    # A rule whose formula is no instance of what it proves.
    ((ITSELF, ("x", (line("a -> b", "itself"),))), (1, 0, "no instance")),
    ((ITSELF, ("x", (line("a", "itself"),))), (1, 0, "no instance")),
    ((ITSELF, ("x", (line("a -> ~~a", "itself"),))), (1, 0, "no instance")),
    ((ITSELF, TWICE, ("x", (line("~~(a -> a)", "twice"),))), (2, 0, "no instance")),
    ((ITSELF, TWICE, ("x", (line("~~(~a -> ~b)", "twice"),))), (2, 0, "no instance")),
    # What a rule proves is in its last line, not in another one.
    ((ITSELF, ("x", (line("a -> b -> a", "itself"),))), (1, 0, "no instance")),
    # The first one of several faults: in the entry, in the line, by the order of the reasons.
    ((ITSELF, ("itself", ()), ("x", ())), (1, 0, "name stands twice")),
    ((ITSELF, ("itself", ((A, ("hypothesis",)),))), (1, 0, "name stands twice")),
    ((("x", (line("a -> b -> a", 1), line("a", 0, 5), line("a", 9))), ("x", ())), (0, 1, "line not before")),
    ((("x", (line("a -> ~~a", 6), line("b", 2, 0))), ("y", ()), ("x", SELF)), (0, 1, "line not before")),
    ((ITSELF, ("x", (line("a -> a", "itself"), line("a", "itself"), (B, ("hypothesis",)))), ("y", ())),
     (1, 1, "no instance")),
    ((ITSELF, ("x", (line("a -> a", "itself"), (B, ("hypothesis",)), line("a", "itself"))), ("y", ())),
     (1, 1, "hypothesis")),
    ((ITSELF, ("y", (line("b", "z"),)), ("x", (line("a", "itself"),))), (1, 0, "no rule")),
    ((("x", (line("a", 1, 2), line("a", 9))),), (0, 0, "line not before")),
    ((("x", (line("~~a", 6), line("a -> ~~a", 6), line("~~a", 1, 1), line("b", 1, 0))),), (0, 0, "no instance")),
    ((("x", (line("a -> ~~a", 6), line("b", 0, 0))),), (0, 1, "other condition")),
    ((ITSELF, ("x", (line("~~(b -> ~b)", 7),))), (1, 0, "unknown axiom")),
    # In later entries than the first, and in later lines.
    ((ITSELF, TWICE, RAISED, ("both", BOTH[1][:3] + (line("a", "none"),))), (3, 3, "no rule")),
    ((ITSELF, TWICE, RAISED, ("both", BOTH[1][:3] + ((A, ("hypothesis",)),))), (3, 3, "hypothesis")),
    ((ITSELF, TWICE, RAISED, ("both", BOTH[1][:4] + (line("d -> ~~(~c -> ~a)", 3, 0),))),
     (3, 4, "other consequence")),
    ((ITSELF, TWICE, RAISED, ("both", BOTH[1][:4] + (line("d -> ~~(~c -> ~c)", 3, 2),))), (3, 4, "other condition")),
    ((ITSELF, TWICE, RAISED, ("both", BOTH[1][:4] + (line("d -> ~~(~c -> ~c)", 0, 3),))), (3, 4, "no conditional")),
    ((ITSELF, TWICE, RAISED, ("twice", BOTH[1])), (3, 0, "name stands twice")),
    ((ITSELF, TWICE, RAISED, BOTH, ("last", ())), (4, 0, "empty")),
]


def first_fault(book):
    """The first fault of a book of right shapes by the words of [b1], or None."""
    for number, (name, proof) in enumerate(book):
        rules = dict(book[:number])
        if name in rules:
            return (number, 0, "name stands twice")
        if not proof:
            return (number, 0, "empty")
        for at, (formula, why) in enumerate(proof):
            reason = reason_of(rules, proof, at, formula, why)
            if reason:
                return (number, at, reason)
    return None


def reason_of(rules, proof, at, formula, why):
    if why[0] == "hypothesis":
        return "hypothesis"
    if why[0] == "rule":
        if why[1] not in rules:
            return "no rule"
        return None if is_instance(rules[why[1]][-1][0], formula, {}) else "no instance"
    if why[0] == "axiom":
        if why[1] not in PATTERNS:
            return "unknown axiom"
        return None if is_instance(PATTERNS[why[1]], formula, {}) else "no instance"
    _, i, j = why
    if not (0 <= i < at and 0 <= j < at):
        return "line not before"
    if proof[i][0][0] != "if":
        return "no conditional"
    if proof[i][0][1] != proof[j][0]:
        return "other condition"
    return None if proof[i][0][2] == formula else "other consequence"


def unfolded_by_words(book, name):
    """The unfolded entry by the words of [b2]."""
    lines = []

    def number_of(formula):
        return next((at for at, (part, _) in enumerate(lines) if part == formula), None)

    def take(proof, entry):
        places = []
        for formula, why in proof:
            if number_of(formula) is None and why[0] == "rule":
                inner = unfolded_by_words(book[:entry], why[1])
                table = {}
                assert is_instance(inner[-1][0], formula, table)
                take([(put_for(part, table), reason) for part, reason in inner], None)
            elif number_of(formula) is None:
                if why[0] == "detach":
                    why = ("detach", places[why[1]], places[why[2]])
                lines.append((formula, why))
            places.append(number_of(formula))
        return places[-1]

    entry = [number for number, (other, _) in enumerate(book) if other == name][0]
    last = take(book[entry][1], entry)
    return trimmed(tuple(lines[:last + 1]))


def chance_book(rng, many):
    """A right book: each entry detaches one thing from another, by rules or axioms, with lines more and twice."""
    book = [ITSELF]
    known = [(PATTERNS[k], ("axiom", k)) for k in ALL] + [(proved(SELF), rule("itself"))]
    while len(book) < many:
        first, second = rng.choice(known), rng.choice(known[3:])
        if first[0][0] != "if":
            continue
        apart = put_for(second[0], {name: ("letter", name + "'") for name in names_in(second[0])})
        table = unified(first[0][1], apart)
        if table is None:
            continue
        whole = named_in_order(put_for(("if", apart, first[0]), table))
        if size(whole) > 60 or whole[2][2] in [formula for formula, _ in known]:
            continue
        if rng.random() < 0.3:
            # Not the most general one.
            whole = put(whole, {"a": chance_formula(rng, rng.randint(1, 3), ["a", "b"])})
        lines = [(whole[2], first[1]), (whole[1], second[1]), (whole[2][2], ("detach", 0, 1))]
        name = f"entry {len(book)}"
        known.append((whole[2][2], rule(name)))
        book.append((name, noisy(rng, lines, known[:-1])))
    return tuple(book)


def noisy(rng, lines, known):
    """Lines of a proof with others between, some of which have the same formulas."""
    found, places = [], []
    for formula, why in lines:
        while rng.random() < 0.3:
            part, reason = rng.choice(known + [other for other in found if other[1][0] != "detach"])
            found.append((part, reason))
        places.append(len(found))
        found.append((formula, ("detach", places[0], places[1]) if why[0] == "detach" else why))
    return tuple(found)


class TestCheckBook(unittest.TestCase):
    def assert_fault(self, book, wanted):
        with self.assertRaises(BookFault) as caught:
            check_book(book)
        fault = caught.exception
        self.assertEqual((fault.entry, fault.line, fault.reason), wanted)
        self.assertIs(type(fault), BookFault)
        self.assertIsInstance(fault, ScriptError)
        self.assertIsInstance(fault, ValueError)
        self.assertNotIsInstance(fault, (ProofFault, TextFault, DrawingFault))

    def test_right_books(self):
        for many in range(len(BOOK) + 1):
            self.assertIsNone(check_book(BOOK[:many]))
        self.assertIsNone(check_book((("", SELF), (" ", SELF))))
        self.assertIsNone(check_book((RAISED[:1] + (SELF,),)))

    def test_names_that_are_kinds_of_reasons(self):
        for name in ("hypothesis", "axiom", "detach", "rule"):
            book = ((name, SELF), ("x", (line("b -> b", name),)))
            self.assertIsNone(check_book(book))
            self.assertEqual(unfolded(book, "x"), tuple((put(formula, {"a": B}), why) for formula, why in SELF))
            self.assertEqual(uses(book, "x"), (0, 1))

    def test_faults(self):
        for book, wanted in FAULTS:
            if isinstance(book[0], str):
                book = (book,)
            with self.subTest(wanted=wanted, book=book):
                self.assertEqual(first_fault(book), wanted)
                self.assert_fault(book, wanted)

    def test_each_reason_is_among_the_faults(self):
        self.assertEqual({wanted[2] for _, wanted in FAULTS}, {
            "name stands twice", "empty", "unknown axiom", "no instance", "line not before", "no conditional",
            "other condition", "other consequence", "no rule", "hypothesis"})

    def test_by_chance(self):
        rng = random.Random(51)
        found = {}
        for _ in range(3000):
            book = chance_book(rng, rng.randint(2, 6))
            self.assertIsNone(check_book(book))
            for _ in range(rng.randint(1, 3)):
                book = self.damaged(rng, book)
            wanted = first_fault(book)
            if wanted is None:
                self.assertIsNone(check_book(book))
            else:
                self.assert_fault(book, wanted)
            reason = wanted and wanted[2]
            found[reason] = found.get(reason, 0) + 1
        self.assertGreaterEqual(len(found), 10, found)

    def damaged(self, rng, book):
        """The book with some change, which may be a fault."""
        entry = rng.randrange(len(book))
        name, proof = book[entry]
        chance = rng.random()
        if chance < 0.1:
            changed = (rng.choice(book)[0], proof)
        elif chance < 0.15 or not proof:
            changed = (name, ())
        else:
            at = rng.randrange(len(proof))
            formula, why = proof[at]
            if chance < 0.5:
                formula = rng.choice(proof)[0] if rng.random() < 0.5 else chance_formula(rng, rng.randint(1, 4), "ab")
            else:
                why = rng.choice([("hypothesis",), rule(f"entry {rng.randint(0, 3)}"), ("axiom", rng.randint(0, 7)),
                                  ("detach", rng.randint(-1, at + 1), rng.randint(-1, at + 1))])
            changed = (name, proof[:at] + ((formula, why),) + proof[at + 1:])
        return book[:entry] + (changed,) + book[entry + 1:]


class TestUnfolded(unittest.TestCase):
    def assert_unfolded(self, book, name):
        proof = unfolded(book, name)
        goal = proved(dict(book)[name])
        self.assertTrue(is_proof(proof, (), goal, ALL))
        self.assertIsNone(check(proof))
        self.assertEqual(hypotheses(proof), ())
        formulas = [formula for formula, _ in proof]
        self.assertEqual(len(set(formulas)), len(formulas))
        self.assertEqual(trimmed(proof), proof)
        self.assertEqual(proof, unfolded_by_words(book, name))
        return proof

    def test_without_rules(self):
        self.assertEqual(self.assert_unfolded(BOOK, "itself"), SELF)
        untrimmed = (("x", (line("b -> ~~b", 6),) + tuple(
            (formula, ("detach", why[1] + 1, why[2] + 1) if why[0] == "detach" else why) for formula, why in SELF)),)
        self.assertEqual(self.assert_unfolded(untrimmed, "x"), SELF)

    def test_rules(self):
        proof = self.assert_unfolded(BOOK, "twice")
        self.assertEqual(proof[:5], tuple((put(formula, {"a": no(A)}), why) for formula, why in SELF))
        self.assertEqual(len(proof), 7)
        self.assertEqual(proof[6], (no(no(cond(no(A), no(A)))), ("detach", 5, 4)))

    def test_rules_of_rules(self):
        proof = self.assert_unfolded(BOOK, "both")
        self.assertEqual(len(proof), 9)
        self.assertEqual(proved(proof), cond(D, no(no(cond(no(C), no(C))))))
        deep = [ITSELF]
        formula = cond(A, A)
        for _ in range(30):
            name, _ = deep[-1]
            formula = cond(formula, formula)
            other = put(cond(A, A), {"a": formula[1]})
            deep.append((f"{len(deep)}", ((other, rule("itself")), (formula[1], rule(name)))))
            formula = formula[1]
        self.assertEqual(self.assert_unfolded(tuple(deep), "30"), SELF)

    def test_the_same_rule_twice_for_other_formulas(self):
        weak = ("weak", (
            line("~~a -> b -> ~~a", 1),
            line("(~~a -> b -> ~~a) -> a -> ~~a -> b -> ~~a", 1),
            line("a -> ~~a -> b -> ~~a", 1, 0),
            line("(a -> ~~a -> b -> ~~a) -> (a -> ~~a) -> a -> b -> ~~a", 2),
            line("(a -> ~~a) -> a -> b -> ~~a", 3, 2),
            line("a -> ~~a", 6),
            line("a -> b -> ~~a", 4, 5),
        ))
        book = (ITSELF, weak, ("x", (
            line("(b -> b) -> (c -> c) -> ~~(b -> b)", "weak"),
            line("b -> b", "itself"),
            line("c -> c", "itself"),
            line("(c -> c) -> ~~(b -> b)", 0, 1),
            line("~~(b -> b)", 3, 2),
        )))
        self.assertIsNone(check_book(book))
        proof = self.assert_unfolded(book, "x")
        self.assertEqual(len(proof), 7 + 5 + 5 + 2)
        self.assertEqual([why for _, why in proof[-2:]], [("detach", 6, 11), ("detach", 17, 16)])

    def test_the_same_rule_twice_for_the_same_formula(self):
        book = (ITSELF, ("x", (
            line("b -> b", "itself"),
            line("(b -> b) -> (b -> b) -> b -> b", 1),
            line("b -> b", "itself"),
            line("(b -> b) -> b -> b", 1, 2),
        )))
        proof = self.assert_unfolded(book, "x")
        self.assertEqual(len(proof), 7)
        self.assertEqual(proof[6][1], ("detach", 5, 4))

    def test_letters_that_the_formula_proved_does_not_have_stay(self):
        # b and z9 stand in lines of the proof alone.
        inner = (
            (cond(cond(A, cond(Z9, A), A), cond(A, Z9, A), A, A), ("axiom", 2)),
            (cond(A, cond(Z9, A), A), ("axiom", 1)),
            (cond(cond(A, Z9, A), A, A), ("detach", 0, 1)),
            (cond(A, Z9, A), ("axiom", 1)),
            (cond(A, A), ("detach", 2, 3)),
        )
        book = (("x", inner), ("y", ((cond(Z9, Z9), rule("x")),)), ("z", ((cond(no(B), no(B)), rule("y")),)))
        check_book(book)
        proof = self.assert_unfolded(book, "y")
        self.assertEqual(proof, tuple((put(formula, {"a": Z9}), why) for formula, why in inner))
        proof = self.assert_unfolded(book, "z")
        # y proves z9 -> z9, so z9 is put for, wherever it stands there.
        self.assertEqual(proof, tuple((put(formula, {"a": no(B), "z9": no(B)}), why) for formula, why in inner))
        book = (("x", inner), ("y", ((cond(B, B), rule("x")),)), ("z", ((cond(no(B), no(B)), rule("y")),)))
        proof = self.assert_unfolded(book, "z")
        self.assertEqual(proof, tuple((put(formula, {"a": no(B)}), why) for formula, why in inner))

    def test_a_formula_that_is_there_already(self):
        # The rule's formula is there by an axiom, so the rule's proof does not come in.
        book = (("x", ((cond(A, B, A), ("axiom", 1)),)), ("y", (
            line("b -> c -> b", 1),
            line("b -> c -> b", "x"),
            line("(b -> c -> b) -> ~~(b -> c -> b)", 6),
            line("~~(b -> c -> b)", 2, 1),
        )))
        self.assertEqual(len(self.assert_unfolded(book, "y")), 3)
        # A line of the rule's proof is there already, by other means: it stands for the rule's own.
        book = (ITSELF, TWICE, ("y", (
            line("(~b -> ~b) -> ~~(~b -> ~b)", 6),
            line("~~((~b -> ~b) -> ~~(~b -> ~b)) -> (~b -> ~b) -> ~~(~b -> ~b)", 5),
            line("((~b -> ~b) -> ~~(~b -> ~b)) -> ~~((~b -> ~b) -> ~~(~b -> ~b))", 6),
            line("~~(~b -> ~b)", "twice"),
        )))
        proof = self.assert_unfolded(book, "y")
        self.assertEqual(proof[0][1], ("axiom", 6))
        self.assertEqual(proof[-1][1], ("detach", 0, len(proof) - 2))
        # The rule is left out, whose proof has a line that comes later, for another reason.
        other = (
            (cond(cond(A, cond(Z9, A), A), cond(A, Z9, A), A, A), ("axiom", 2)),
            (cond(A, cond(Z9, A), A), ("axiom", 1)),
            (cond(cond(A, Z9, A), A, A), ("detach", 0, 1)),
            (cond(A, Z9, A), ("axiom", 1)),
            (cond(A, A), ("detach", 2, 3)),
        )
        short = (line("(a -> b -> a) -> b -> a -> a", 3), line("a -> b -> a", 1), line("b -> a -> a", 0, 1))
        book = (ITSELF, RAISED, ("other", other), ("short", short), ("y", (
            line("d -> c -> c", "short"),
            line("d -> c -> c", "raised"),
            line("c -> c", "other"),
            line("(c -> c) -> ~~(c -> c)", 6),
            line("~~(c -> c)", 3, 2),
        )))
        check_book(book)
        proof = self.assert_unfolded(book, "y")
        self.assertEqual(proof[:5], tuple((put(formula, {"a": C}), why) for formula, why in other))
        # The last line's own formula is there already.
        book = (ITSELF, ("x", (line("a -> a", "itself"), line("b -> ~~b", 6), line("a -> a", "itself"))))
        self.assertEqual(self.assert_unfolded(book, "x"), SELF)

    def test_by_chance(self):
        rng = random.Random(52)
        longest = 0
        for _ in range(300):
            book = chance_book(rng, rng.randint(3, 8))
            for name, _ in book:
                longest = max(longest, len(self.assert_unfolded(book, name)))
        self.assertGreater(longest, 15)

    def test_many_entries_that_name_one_another(self):
        # Without keeping what is proved, the work would double with each entry.
        entries = [("0", SELF)]
        for number in range(1, 60):
            name = str(number - 1)
            entries.append((str(number), (
                line("(a -> a) -> (a -> a) -> a -> a", 1), line("a -> a", name), line("(a -> a) -> a -> a", 0, 1),
                line("(a -> a) -> a -> a", name), line("a -> a", name),
            )))
        book = tuple(entries)
        check_book(book)
        self.assertEqual(unfolded(book, "59"), SELF)
        self.assertEqual(uses(book, "59"), tuple(range(60)))


class TestUses(unittest.TestCase):
    def test_cases(self):
        self.assertEqual(uses(BOOK, "itself"), (0,))
        self.assertEqual(uses(BOOK, "twice"), (0, 1))
        self.assertEqual(uses(BOOK, "raised"), (0, 2))
        self.assertEqual(uses(BOOK, "both"), (0, 1, 2, 3))

    def test_entries_that_nothing_uses(self):
        book = (("a", SELF), ("b", SELF), ("c", (line("a -> a", "a"),)), ("d", (line("a -> a", "b"),)),
                ("e", (line("a -> a", "c"),)))
        self.assertEqual([uses(book, name) for name in "abcde"], [(0,), (1,), (0, 2), (1, 3), (0, 2, 4)])

    def test_lines_that_nothing_needs(self):
        book = (("a", SELF), ("b", SELF), ("c", (line("b -> b", "a"), line("a -> a", "b"))),
                ("d", SELF + (line("a -> a", "c"), line("b -> ~~b", 6))))
        self.assertEqual(uses(book, "c"), (0, 1, 2))
        self.assertEqual(uses(book, "d"), (0, 1, 2, 3))

    def test_by_chance(self):
        rng = random.Random(53)
        for _ in range(200):
            book = chance_book(rng, rng.randint(1, 7))
            numbers = {name: number for number, (name, _) in enumerate(book)}
            for name in numbers:
                wanted, grown = set(), {numbers[name]}
                while wanted != grown:
                    wanted = grown
                    grown = wanted | {numbers[why[1]] for number in wanted for _, why in book[number][1]
                                      if why[0] == "rule"}
                self.assertEqual(uses(book, name), tuple(sorted(wanted)))


if __name__ == "__main__":
    unittest.main()
