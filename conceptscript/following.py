"""What follows from hypotheses, for each strength, and papers that tell why."""

from conceptscript.classical import proved_from
from conceptscript.judging import is_right_counter, is_right_proof
from conceptscript.positive import decided, is_provable
from conceptscript.shapes import is_tuple
from conceptscript.truth import refuting, selections


def follows(hypotheses, formula, strength):
    """("proof", a proof) of the formula from hypotheses, or ("counter", why there is none)."""
    if strength != "full":
        return decided(hypotheses, formula, strength)
    row = refuting(hypotheses, formula)
    if row is not None:
        return ("counter", ("row", row))
    return ("proof", proved_from(hypotheses, formula))


def is_following(hypotheses, formula, strength):
    """Whether the formula follows from the hypotheses."""
    if strength != "full":
        return is_provable(hypotheses, formula, strength)
    return refuting(hypotheses, formula) is None


def judge(hypotheses, formula, strength, paper):
    """Whether a value is what follows could have given."""
    if not is_tuple(paper, 2):
        return False
    if paper[0] == "proof":
        return is_right_proof(hypotheses, formula, strength, paper[1])
    return paper[0] == "counter" and is_right_counter(hypotheses, formula, strength, paper[1])


def least_sets(hypotheses, formula, strength):
    """The least sets of hypotheses from which the formula follows, as rising tuples of their places, in order."""
    least = []
    for places in sorted(selections(tuple(range(len(hypotheses)))), key=len):
        if not any(is_within(part, places) for part in least):
            chosen = tuple([hypotheses[place] for place in places])
            if is_following(chosen, formula, strength):
                least.append(places)
    return tuple(sorted(least))


def is_within(part, places):
    """Whether all items of the part are among the places."""
    return all(place in places for place in part)


def strongest(formula):
    """The first strength in which the formula is proved without hypotheses, or None."""
    for strength in ("positive", "minimal", "full"):
        if is_following((), formula, strength):
            return strength
    return None
