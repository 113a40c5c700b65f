"""Steps of proofs without formulas, and the most general formulas that they prove."""

from conceptscript.building import LinesOnce
from conceptscript.formulas import axiom, letters, put
from conceptscript.terms import Terms
from conceptscript.unifying import naming, renamed


def steps_of(proof):
    """The steps of the last line of a proof without hypotheses."""
    steps = []
    for _, why in proof:
        if why[0] == "detach":
            steps.append(("detach", steps[why[1]], steps[why[2]]))
        else:
            steps.append(why)
    return steps[-1]


def length(steps):
    """How many axioms and detachments the steps have."""
    return len(reasons_of(steps))


def general(steps):
    """The most general formula that the steps prove, or None."""
    formulas = most_general(reasons_of(steps))
    return None if formulas is None else renamed(formulas[-1])


def proof_of(steps):
    """A proof of the most general formula that the steps prove, without a formula twice; None if there is none."""
    reasons = reasons_of(steps)
    formulas = most_general(reasons)
    if formulas is None:
        return None
    # The last formula comes first, so its letters are named as if it stood alone.
    table = naming([formulas[-1]] + formulas)
    lines = LinesOnce()
    return lines.upto(lines.taken([(put(formula, table), why) for formula, why in zip(formulas, reasons)]))


def reasons_of(steps):
    """The steps one by one, each as the reason of a proof's line; those of a first part before those of a second."""
    backwards = []
    waiting = [steps]
    while waiting:
        step = waiting.pop()
        backwards.append(step)
        if step[0] == "detach":
            waiting.extend(step[1:])
    reasons = []
    ready = []
    for step in reversed(backwards):
        if step[0] == "detach":
            second = ready.pop()
            reasons.append(("detach", ready.pop(), second))
        else:
            reasons.append(step)
        ready.append(len(reasons) - 1)
    return reasons


def most_general(reasons):
    """The formulas of lines with these reasons that make the last one most general; None if there are none.

    Their letters are told apart by the lines that brought them in.
    """
    terms = Terms()
    places = []
    for line, why in enumerate(reasons):
        if why[0] == "detach":
            place = terms.letter((line, ""))
            if not terms.made_same(places[why[1]], terms.conditional(places[why[2]], place)):
                return None
        else:
            pattern = axiom(why[1])
            if pattern is None:
                return None
            place = terms.entered(pattern, {name: terms.letter((line, name)) for name in letters(pattern)})
        places.append(place)
    formulas = terms.solved()
    return None if formulas is None else [formulas[place] for place in places]
