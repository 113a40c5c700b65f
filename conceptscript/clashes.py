"""Proofs out of a clash: two proofs, of a formula and of its negation.

What negations prove is told by the negation of one sure formula, an instance of axiom 1: all clashes lead to it.
"""

from conceptscript.building import Lines
from conceptscript.proofs import hypotheses, proved
from conceptscript.shaping import discharged, trimmed


def assumed(formula):
    """The proof of a formula from itself."""
    return ((formula, ("hypothesis",)),)


def sure_proof(sure):
    """The proof of the sure formula."""
    return ((sure, ("axiom", 1)),)


def detached(first, second):
    """A proof by a proof of a conditional and one of its condition."""
    lines = Lines()
    major = lines.copied(first)
    return trimmed(lines.upto(lines.detach(major, lines.copied(second))))


def unsure(sure, clash):
    """A proof of the negation of the sure formula."""
    plain, negation = clash
    formula = proved(plain)
    if formula == sure:
        return negation
    lines = Lines()
    raised = lines.detach(lines.instance(1, {"a": formula, "b": sure}), lines.copied(plain))
    turned = lines.detach(lines.instance(4, {"b": sure, "a": formula}), raised)
    return trimmed(lines.upto(lines.detach(turned, lines.copied(negation))))


def denied(sure, hypothesis, clash):
    """A proof of the negation of a hypothesis from which both proofs of the clash may come."""
    plain, negation = clash
    if hypothesis not in hypotheses(negation):
        return denied_by_formula(hypothesis, plain, negation)
    if hypothesis not in hypotheses(plain):
        return denied_by_negation(hypothesis, plain, negation)
    return denied_by_negation(hypothesis, sure_proof(sure), unsure(sure, clash))


def denied_by_formula(hypothesis, plain, negation):
    """Denied, where the negation does not come from the hypothesis."""
    formula = proved(plain)
    if formula == hypothesis:
        return negation
    lines = Lines()
    turned = lines.instance(4, {"b": hypothesis, "a": formula})
    turned = lines.detach(turned, lines.copied(discharged(plain, hypothesis)))
    return trimmed(lines.upto(lines.detach(turned, lines.copied(negation))))


def denied_by_negation(hypothesis, plain, negation):
    """Denied, where the formula that clashes with its negation does not come from the hypothesis."""
    formula = proved(plain)
    lines = Lines()
    turned = lines.instance(4, {"b": hypothesis, "a": ("not", formula)})
    turned = lines.detach(turned, lines.copied(discharged(negation, hypothesis)))
    doubled = lines.detach(lines.instance(6, {"a": formula}), lines.copied(plain))
    return trimmed(lines.upto(lines.detach(turned, doubled)))


def cleared(sure, formula, clash):
    """A proof of a formula from whose negation both proofs of the clash may come."""
    plain, _ = clash
    negation = ("not", formula)
    if proved(plain) == formula and negation not in hypotheses(plain):
        return plain
    lines = Lines()
    doubled = lines.copied(denied(sure, negation, clash))
    return trimmed(lines.upto(lines.detach(lines.instance(5, {"a": formula}), doubled)))
