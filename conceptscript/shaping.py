"""Proofs made out of proofs: trimmed, joined, replaced and discharged."""

from conceptscript.building import Lines, moved
from conceptscript.formulas import put


def trimmed(proof):
    """The lines of a proof that are needed for its last one, with their new numbers."""
    firsts = first_lines(proof)
    needed = needed_lines(proof, firsts)
    places = []
    lines = []
    for line, (formula, why) in enumerate(proof):
        if firsts[line] == line:
            places.append(len(lines))
        else:
            places.append(places[firsts[line]])
        if needed[line]:
            lines.append((formula, moved(why, places)))
    return tuple(lines)


def first_lines(proof):
    """For each line the first line with its formula."""
    places = {}
    firsts = []
    for line, (formula, _) in enumerate(proof):
        firsts.append(places.setdefault(repr(formula), line))
    return firsts


def needed_lines(proof, firsts):
    """For each line whether it is needed for the last one."""
    needed = [False for _ in proof]
    needed[firsts[-1]] = True
    for line in reversed(range(len(proof))):
        why = proof[line][1]
        if needed[line] and why[0] == "detach":
            needed[firsts[why[1]]] = True
            needed[firsts[why[2]]] = True
    return needed


def joined(proof, other):
    """The proof with what the other one proves in place of the hypotheses that are this formula; trimmed."""
    lines = Lines()
    lines.copied(other)
    # The other one stands first, so trimming takes its line for each hypothesis that it proves.
    return trimmed(lines.upto(lines.copied(proof)))


def replaced(proof, table):
    """The proof with the table's formulas in place of the letters of all formulas."""
    return tuple((put(formula, table), why) for formula, why in proof)


def discharged(proof, formula):
    """A proof of the conditional from the formula to what the proof proves, without the formula as a hypothesis.

    For a line that rests on the hypothesis stands the conditional to it; another line is kept as it is, and the
    conditional to it is made only where it is asked for.
    """
    lines = Lines()
    places = []
    for part, why in trimmed(proof):
        places.append(under(lines, places, formula, (part, why)))
    return trimmed(lines.upto(conditional_to(lines, formula, places[-1])))


def under(lines, places, hypothesis, line):
    """The pair (rests, place) for a line: whether it rests on the hypothesis, and its line in the new proof.

    If it rests on it, the place is that of the conditional to it; else it is its own.
    """
    formula, why = line
    if why[0] == "hypothesis" and formula == hypothesis:
        return (True, conditional_to_itself(lines, hypothesis))
    if why[0] != "detach":
        return (False, lines.added(formula, why))
    major, minor = places[why[1]], places[why[2]]
    if not major[0] and not minor[0]:
        return (False, lines.detach(major[1], minor[1]))
    if not major[0] and lines.formula(major[1])[1] == hypothesis:
        # The line rests on the hypothesis by its condition alone, so the conditional is there already.
        return (True, major[1])
    return (True, detached_under(lines, hypothesis, major, minor))


def conditional_to_itself(lines, formula):
    """The conditional from a formula to itself, out of the axioms 1 and 2."""
    itself = ("if", formula, formula)
    spread = lines.instance(2, {"c": formula, "b": itself, "a": formula})
    first = lines.instance(1, {"a": formula, "b": itself})
    second = lines.instance(1, {"a": formula, "b": formula})
    return lines.detach(lines.detach(spread, first), second)


def conditional_to(lines, hypothesis, place):
    """The conditional from the hypothesis to the formula of a pair (rests, place)."""
    if place[0]:
        return place[1]
    raised = lines.instance(1, {"a": lines.formula(place[1]), "b": hypothesis})
    return lines.detach(raised, place[1])


def detached_under(lines, hypothesis, major, minor):
    """The conditional from the hypothesis to what is detached, from those to both parts."""
    first = conditional_to(lines, hypothesis, major)
    second = conditional_to(lines, hypothesis, minor)
    _, condition, consequence = lines.formula(first)[2]
    spread = lines.instance(2, {"c": hypothesis, "b": condition, "a": consequence})
    return lines.detach(lines.detach(spread, first), second)
