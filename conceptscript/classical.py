"""Proofs from all six axioms.

No way back is ever needed: each step back from a formula that follows leads to formulas that follow.
"""

from conceptscript.formulas import size
from conceptscript.assumptions import exchanged, with_one, without
from conceptscript.natural import ABSURD, Stock, apply, assume, given, indirect, meanwhile, proof_of
from conceptscript.truth import falsifying


def prove(formula):
    """A proof of the formula without hypotheses; None if some row makes it false."""
    if falsifying(formula) is not None:
        return None
    return proved_from((), formula)


def proved_from(assumed, formula):
    """A proof of a formula from what is assumed; no row makes this true and the formula false."""
    stock = Stock(formula, True)
    known = ()
    for part in assumed:
        known = with_one(known, stock.number(part))
    return proof_of(stock, term_for(stock, known, stock.number(formula)))


def term_for(stock, known, goal):
    """A term of the goal from what is known."""
    if goal in known:
        return given(goal)
    if stock.parts[goal]:
        condition, consequence = stock.parts[goal]
        return assume(stock, condition, term_for(stock, with_one(known, condition), consequence))
    x = ready(stock, known)
    if goal != ABSURD and (x is None or stock.parts[x][1] == ABSURD):
        return indirect(goal, term_for(stock, with_one(known, stock.negation(goal)), ABSURD))
    if x is None:
        x = next_case(stock, known)
    return term_by(stock, known, x, goal)


def ready(stock, known):
    """A conditional that is known together with its condition, or None; a negation, if there is such a one."""
    found = [x for x in known if stock.parts[x] and stock.parts[x][0] in known]
    return min(found, key=lambda x: stock.parts[x][1] != ABSURD, default=None)


def term_by(stock, known, x, goal):
    """A term of the goal with the conditional x: its condition is proved, its consequence is used."""
    condition, consequence = stock.parts[x]
    first = apply(stock, given(x), term_for(stock, without(known, x), condition))
    return meanwhile(first, term_for(stock, exchanged(known, x, consequence), goal))


def next_case(stock, known):
    """The conditional to take next for the absurd, where nothing can be detached.

    Its condition is a conditional: without such a one, all that is known would be true where just the known letters
    are. Those come first that lead to one case alone.
    """
    cases = [x for x in known if stock.parts[x] and stock.parts[stock.parts[x][0]]]
    return min(cases, key=lambda x: (splits(stock, known, x), size(stock.formulas[x])))


def splits(stock, known, x):
    """Whether the consequence of a conditional must be looked at, too."""
    consequence = stock.parts[x][1]
    return consequence != ABSURD and stock.negation(consequence) not in known
