"""What provers find: terms of natural deduction, and the proofs from the axioms that they stand for.

Provers see formulas by their numbers in a Stock. To the strengths in which negations mean something, a negation is the
conditional from what it negates to the absurd, which is the formula ~(x -> x -> x), x any letter.

A term is a tuple; its second item is the number of the formula that it proves:
- ("given", x): x is assumed.
- ("apply", y, s, t): s proves the conditional from x to y, and t proves x.
- ("assume", z, x, s): z is the conditional from x to y, and s proves y with x assumed.
- ("meanwhile", y, x, r, s): s proves y with x assumed, and r proves x.
- ("indirect", x, s): s proves the absurd with the negation of x assumed, and so, by axiom 5, x is true.
"""

from conceptscript.clashes import assumed, cleared, denied, detached, sure_proof, unsure
from conceptscript.formulas import axiom, letters, put
from conceptscript.shaping import discharged, joined

ABSURD = 0


class Stock:
    """Formulas by numbers, where a conditional's parts are numbers, too."""

    def __init__(self, formula, negations_mean):
        self.negations_mean = negations_mean
        # Its negation stands for the absurd; with a letter of the formula no other letters come into its proof.
        letter = ("letter", letters(formula)[0])
        self.sure = put(axiom(1), {"a": letter, "b": letter})
        self.formulas = [("not", self.sure)]
        # For each number the condition and the consequence, or nothing.
        self.parts = [()]
        self.known = {}

    def number(self, formula):
        """The number of a formula."""
        if formula[0] == "if":
            return self.conditional(self.number(formula[1]), self.number(formula[2]))
        if formula[0] == "not" and self.negations_mean:
            return self.negation(self.number(formula[1]))
        return self.entered(repr(formula), formula, ())

    def conditional(self, condition, consequence):
        """The number of the conditional between two numbers."""
        parts = (condition, consequence)
        if consequence == ABSURD:
            return self.entered(parts, ("not", self.formulas[condition]), parts)
        return self.entered(parts, ("if", self.formulas[condition], self.formulas[consequence]), parts)

    def negation(self, x):
        """The number of the negation of a number."""
        return self.conditional(x, ABSURD)

    def entered(self, key, formula, parts):
        """The number of what has this key."""
        if key not in self.known:
            self.known[key] = len(self.formulas)
            self.formulas.append(formula)
            self.parts.append(parts)
        return self.known[key]


def given(x):
    """The term for an assumed formula."""
    return ("given", x)


def apply(stock, first, second):
    """The term that applies a conditional to its condition."""
    return ("apply", stock.parts[first[1]][1], first, second)


def assume(stock, x, term):
    """The term of a conditional whose consequence is proved with its condition x assumed."""
    return ("assume", stock.conditional(x, term[1]), x, term)


def indirect(x, term):
    """The term of x from a term of the absurd."""
    return ("indirect", x, term)


def meanwhile(first, term):
    """The term with what the first one proves in place of the assumption of it."""
    if term == ("given", first[1]):
        return first
    return ("meanwhile", term[1], first[1], first, term)


def proof_of(stock, term):
    """The proof of a term's formula from the formulas that it takes as given."""
    kind = term[0]
    if term[1] == ABSURD:
        return unsure(stock.sure, clash_of(stock, term))
    if kind == "given":
        return assumed(stock.formulas[term[1]])
    if kind == "apply":
        return detached(proof_of(stock, term[2]), proof_of(stock, term[3]))
    if kind == "meanwhile":
        return joined(proof_of(stock, term[4]), proof_of(stock, term[3]))
    if kind == "indirect":
        return cleared(stock.sure, stock.formulas[term[1]], clash_of(stock, term[2]))
    hypothesis = stock.formulas[term[2]]
    if term[3][1] == ABSURD:
        return denied(stock.sure, hypothesis, clash_of(stock, term[3]))
    return discharged(proof_of(stock, term[3]), hypothesis)


def clash_of(stock, term):
    """For a term of the absurd two proofs, of a formula and of its negation."""
    if term[0] == "given":
        return (sure_proof(stock.sure), assumed(stock.formulas[ABSURD]))
    if term[0] == "apply":
        return (proof_of(stock, term[3]), proof_of(stock, term[2]))
    first = proof_of(stock, term[3])
    return tuple([joined(proof, first) for proof in clash_of(stock, term[4])])
