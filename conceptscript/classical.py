"""Proofs from all six axioms.

No way back is ever needed: each step back from a formula that follows leads to formulas that follow.
"""

from conceptscript.formulas import size
from conceptscript.natural import ABSURD, Stock, apply, assume, given, indirect, meanwhile, proof_of
from conceptscript.truth import falsifying


def prove(formula):
    """A proof of the formula without hypotheses; None if some row makes it false."""
    if falsifying(formula) is not None:
        return None
    return proved_from((), formula)


def proved_from(assumed, formula):
    """A proof of a formula from what is assumed; no row makes this true and the formula false."""
    stock = Stock(formula, True)
    known = tuple([stock.number(part) for part in assumed])
    return proof_of(stock, term_for(stock, known, stock.number(formula)))


def term_for(stock, known, goal):
    """A term of the goal from what is known."""
    if goal in known:
        return given(goal)
    if stock.parts[goal]:
        condition, consequence = stock.parts[goal]
        return assume(stock, condition, term_for(stock, known + (condition,), consequence))
    known = without_idle(stock, known)
    ready = [x for x in known if stock.parts[x] and stock.parts[x][0] in known]
    for x in ready:
        if stock.parts[x][1] == ABSURD:
            return goal_by_clash(stock, x, goal)
    if ready:
        return term_by(stock, known, ready[0], goal)
    if goal != ABSURD:
        return indirect(goal, term_for(stock, known + (stock.negation(goal),), ABSURD))
    return term_by(stock, known, next_case(stock, known), goal)


def without_idle(stock, known):
    """What is known, but for conditionals that tell no more than what is known besides."""
    return tuple([x for x in sorted(set(known)) if not is_idle(stock, known, x)])


def is_idle(stock, known, x):
    """Whether a formula is a conditional and its consequence or its condition's negation is known besides."""
    if not stock.parts[x]:
        return False
    condition, consequence = stock.parts[x]
    return consequence in known or (consequence != ABSURD and stock.negation(condition) in known)


def goal_by_clash(stock, x, goal):
    """A term of the goal where x, a negation, is known and what it negates."""
    clash = apply(stock, given(x), given(stock.parts[x][0]))
    if goal == ABSURD:
        return clash
    return indirect(goal, clash)


def term_by(stock, known, x, goal):
    """A term of the goal with the conditional x: its condition is proved, its consequence is used."""
    condition, consequence = stock.parts[x]
    rest = tuple([y for y in known if y != x])
    first = apply(stock, given(x), term_for(stock, rest, condition))
    return meanwhile(first, term_for(stock, rest + (consequence,), goal))


def next_case(stock, known):
    """The conditional to take next for the absurd; those come first that lead to one case alone."""
    cases = [x for x in known if stock.parts[x] and (stock.parts[x][1] != ABSURD or stock.parts[stock.parts[x][0]])]
    return min(cases, key=lambda x: (splits(stock, known, x), size(stock.formulas[x])))


def splits(stock, known, x):
    """Whether the consequence of a conditional must be looked at, too."""
    consequence = stock.parts[x][1]
    return consequence != ABSURD and stock.negation(consequence) not in known
