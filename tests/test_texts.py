"""Promises t1, t2, t3 and the interface under conceptscript/texts.py."""

import random
import re
import unittest

from conceptscript.errors import BookFault, DrawingFault, ProofFault, ScriptError, TextFault
from conceptscript.texts import read, write
from samples import A, A0, B, B0, C, D, NAMES, TOWERS, Z9, chance_formula, cond, no, signs

SIGN = "unexpected sign"
END = "unexpected end"

# Texts as t2 gives them.
TEXTS = [
    (A, "a"),
    (Z9, "z9"),
    (no(A), "~a"),
    (no(no(no(A0))), "~~~a0"),
    (cond(A, B), "a -> b"),
    (cond(A, B, C), "a -> b -> c"),
    (cond(cond(A, B), C), "(a -> b) -> c"),
    (cond(cond(cond(A, B), C), D), "((a -> b) -> c) -> d"),
    (cond(cond(A, B, C), D), "(a -> b -> c) -> d"),
    (cond(cond(A, B), cond(B, C), A, C), "(a -> b) -> (b -> c) -> a -> c"),
    (cond(no(A), B), "~a -> b"),
    (no(cond(A, B)), "~(a -> b)"),
    (no(no(cond(A, no(B)))), "~~(a -> ~b)"),
    (cond(A, no(cond(B, C))), "a -> ~(b -> c)"),
    (cond(no(cond(A, B)), C), "~(a -> b) -> c"),
    (cond(A0, B0, A), "a0 -> b0 -> a"),
    (cond(cond(A, B), no(B), no(A)), "(a -> b) -> ~b -> ~a"),
]


def fault_of(text):
    """The place and the reason of the fault of a text, or None."""
    try:
        read(text)
    except TextFault as fault:
        return fault.place, fault.reason
    return None


def is_formula(text):
    """Whether a text is a formula, by another way than the program's: replacing what is one, until nothing is left."""
    rest = re.sub("[a-z][0-9]?", "F", re.sub("[A-Z]", "?", text))
    rest = rest.replace("->", "I").replace(" ", "")
    while True:
        less = rest.replace("~F", "F").replace("(F)", "F").replace("FIF", "F")
        if less == rest:
            return rest == "F"
        rest = less


def can_go_on(text):
    """Whether some text that begins with this one is a formula."""
    for more in ("", "a", ">a"):
        for many in range(text.count("(") + 1):
            if is_formula(text + more + ")" * many):
                return True
    return False


class TestWrite(unittest.TestCase):
    def test_texts(self):
        for formula, text in TEXTS:
            with self.subTest(text=text):
                self.assertEqual(write(formula), text)

    def test_no_needless_parentheses_and_no_other_spaces(self):
        rng = random.Random(11)
        for _ in range(300):
            formula = chance_formula(rng, rng.randint(1, 40), NAMES[:40])
            text = write(formula)
            self.assertEqual(text.count("->"), text.count(" -> "))
            self.assertNotIn(" ", text.replace(" -> ", ""))
            begun = []
            for place, sign in enumerate(text):
                if sign == "(":
                    begun.append(place)
                elif sign == ")":
                    start = begun.pop()
                    less = text[:start] + text[start + 1:place] + text[place + 1:]
                    self.assertNotEqual(read(less), formula)


class TestRead(unittest.TestCase):
    def test_texts(self):
        for formula, text in TEXTS:
            with self.subTest(text=text):
                self.assertEqual(read(text), formula)

    def test_what_write_gives(self):
        rng = random.Random(12)
        for many in [*range(1, 80), 200, 399, *[400] * 20]:
            formula = chance_formula(rng, many, rng.sample(NAMES, 40))
            self.assertEqual(read(write(formula)), formula)
        for tower in TOWERS:
            self.assertEqual(read(write(tower)), tower)
        forty = cond(*[("letter", name) for name in NAMES[-40:]])
        self.assertEqual(read(write(forty)), forty)

    def test_binding(self):
        self.assertEqual(read("a -> b -> c"), read("a -> (b -> c)"))
        self.assertNotEqual(read("a -> b -> c"), read("(a -> b) -> c"))
        self.assertEqual(read("~a -> b"), read("(~a) -> b"))
        self.assertNotEqual(read("~a -> b"), read("~(a -> b)"))
        self.assertEqual(read("a -> ~b -> c"), cond(A, no(B), C))
        self.assertEqual(read("~a -> ~b -> ~c"), cond(no(A), no(B), no(C)))
        self.assertEqual(read("a -> (b -> c) -> d"), cond(A, cond(B, C), D))

    def test_spaces(self):
        for text in ("~(a->b)", " ~(a->b)", "~(a->b) ", "~ (a->b)", "~( a->b)", "~(a ->b)", "~(a-> b)", "~(a->b )",
                     "   ~   (   a   ->   b   )   "):
            with self.subTest(text=text):
                self.assertEqual(read(text), no(cond(A, B)))
        self.assertEqual(read("a0->~~b0->a"), cond(A0, no(no(B0)), A))
        self.assertEqual(read("~ ~ a"), no(no(A)))
        self.assertEqual(read(" " * 1000 + "a"), A)

    def test_needless_parentheses(self):
        for text, formula in [
            ("(a)", A),
            ("((a))", A),
            ("( ( a ) )", A),
            ("~(a)", no(A)),
            ("~((a))", no(A)),
            ("(~a)", no(A)),
            ("~(~(a))", no(no(A))),
            ("(a -> b)", cond(A, B)),
            ("((a) -> ((b)))", cond(A, B)),
            ("(((a -> b)) -> (c))", cond(cond(A, B), C)),
            ("~((~(((a)) -> b)))", no(no(cond(A, B)))),
            ("((a0)) -> (b -> (c -> d))", cond(A0, B, C, D)),
            ("(" * 3000 + "a" + ")" * 3000, A),
            ("~(" * 50 + "a -> b" + ")" * 50, no(no(read("~(" * 48 + "a -> b" + ")" * 48)))),
        ]:
            with self.subTest(text=text[:40]):
                self.assertEqual(read(text), formula)

    def test_chance_spaces_and_parentheses(self):
        rng = random.Random(13)
        for _ in range(200):
            formula = chance_formula(rng, rng.randint(1, 60), NAMES[:40])
            words = signs(formula)
            text = "".join(" " * rng.choice((0, 0, 1, 3)) + word for word in words)
            self.assertEqual(read(text), formula)
            text = "".join(f"(({word}))" if word[0].isalpha() else word for word in words)
            self.assertEqual(read(text), formula)

    def test_digits(self):
        self.assertEqual(read("a0"), A0)
        self.assertEqual(read("a -> a0"), cond(A, A0))
        for name in NAMES:
            self.assertEqual(read(name), ("letter", name))
            self.assertEqual(write(("letter", name)), name)


class TestFaults(unittest.TestCase):
    def check(self, text, place, reason):
        with self.subTest(text=text):
            with self.assertRaises(TextFault) as caught:
                read(text)
            self.assertEqual((caught.exception.place, caught.exception.reason), (place, reason))

    def test_where_a_formula_must_begin(self):
        for before in ("", "~", "~~", "a ->", "a -> ", "(", "~(", "a -> (", "  ", "a->b->", "(a -> b) -> ~"):
            for sign in (")", "->", "-", "- ", "-a", ">", "0", "9", "A", "Z", "?", "\t", "\n", "|", "é", "²"):
                self.check(before + sign, len(before), SIGN)
                self.check(before + sign + "a", len(before), SIGN)

    def test_behind_a_formula(self):
        for before in ("a ", "a0", "~a ", "a -> b ", "(a)", "(a -> b)", "~(a) ", "(a ", "(a -> b -> c0", "((a)"):
            for sign in ("a", "z9", "~", "(", ">", "0", "9", "A", "?", "\t", "\n", "*", "é", "²"):
                self.check(before + sign, len(before), SIGN)
                self.check(before + sign + " -> b", len(before), SIGN)

    def test_closing_without_opening(self):
        self.check(")", 0, SIGN)
        self.check("a)", 1, SIGN)
        self.check("(a))", 3, SIGN)
        self.check("(a -> b) -> c)", 13, SIGN)
        self.check("~(a) -> ~b ) -> c", 11, SIGN)
        self.check("()", 1, SIGN)
        self.check("(a -> )", 6, SIGN)
        self.check("(~)", 2, SIGN)

    def test_digits(self):
        self.check("0", 0, SIGN)
        self.check("0a", 0, SIGN)
        self.check("a 0", 2, SIGN)
        self.check("a00", 2, SIGN)
        self.check("a12", 2, SIGN)
        self.check("a0 1", 3, SIGN)
        self.check("(a)0", 3, SIGN)
        self.check("~1", 1, SIGN)
        self.check("a -> 1", 5, SIGN)
        self.check("(2", 1, SIGN)
        self.check("a\u0663", 1, SIGN)

    def test_signs_that_no_text_has(self):
        for sign in ("A", "Z", "B0", "!", "&", "_", "[", "=", "`", "{", "\t", "\n", "\xa0", "\u2192", "\xac", "\xe4"):
            self.check(sign, 0, SIGN)
            self.check("a" + sign, 1, SIGN)
            self.check("~" + sign, 1, SIGN)
            self.check("(" + sign, 1, SIGN)
            self.check("a ->" + sign, 4, SIGN)

    def test_a_minus_behind_a_formula(self):
        for before in ("a", "a ", "a0", "a0 ", "(a)", "~a", "(a", "(a -> b", "a -> b"):
            for more in (" ", " >", "a", "-", "->", "- >", ")", "(", "~", "0", "A"):
                self.check(before + "-" + more, len(before), SIGN)
            self.check(before + "-", len(before) + 1, END)
            self.check(before + "->", len(before) + 2, END)
            self.check(before + "->-", len(before) + 2, SIGN)
            self.check(before + "->>", len(before) + 2, SIGN)

    def test_ends_too_early(self):
        for text in ("", " ", "     ", "~", "~ ", "~~", "(", "( ", "((", "(a", "(a ", "((a)", "(a -> b", "~(a0", "a ->",
                     "a -> ", "a->", "a -> ~", "a -> (", "a -> (b", "(a -> b) -> ", "a -> b ->   ", "(" * 2000):
            self.check(text, len(text), END)

    def test_the_first_fault_counts(self):
        self.check("a b )", 2, SIGN)
        self.check("(a A", 3, SIGN)
        self.check("a - > (", 2, SIGN)
        self.check(") -", 0, SIGN)
        self.check("a ~ -", 2, SIGN)

    def test_texts_cut_short_and_with_a_sign_between(self):
        text = "(a0 -> ~b) -> ~~(c -> a0)"
        for end in range(len(text)):
            if not is_formula(text[:end]):
                self.check(text[:end], end, END)
        for place in range(len(text)):
            at = place - 1 if text[place - 1] == "-" else place
            self.check(text[:place] + "X" + text[place:], at, SIGN)

    def test_all_short_texts(self):
        waiting = [""]
        while waiting:
            before = waiting.pop()
            self.assertEqual(fault_of(before), None if is_formula(before) else (len(before), END), before)
            for sign in "ab0~->() A":
                text = before + sign
                if can_go_on(text):
                    if len(text) < 6:
                        waiting.append(text)
                    continue
                place = len(before) - 1 if before.endswith("-") else len(before)
                for more in ("", "a", ")", "-"):
                    self.assertEqual(fault_of(text + more), (place, SIGN), text + more)

    def test_the_class(self):
        for text in ("", "a b"):
            with self.assertRaises(TextFault) as caught:
                read(text)
            fault = caught.exception
            self.assertIsInstance(fault, ValueError)
            self.assertIsInstance(fault, ScriptError)
            self.assertNotIsInstance(fault, (DrawingFault, ProofFault, BookFault))


if __name__ == "__main__":
    unittest.main()
