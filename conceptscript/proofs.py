"""Proofs: their first faults, what they prove, and from what."""

from conceptscript.errors import ProofFault
from conceptscript.formulas import axiom, is_instance


def check(proof):
    """None for a right proof; else raises ProofFault with the proof's first fault."""
    if not proof:
        raise ProofFault(0, "empty")
    for line in range(len(proof)):
        reason = fault_of_line(proof, line)
        if reason is not None:
            raise ProofFault(line, reason)


def fault_of_line(proof, line):
    """The reason of the first fault of a line, or None."""
    formula, why = proof[line]
    if why[0] == "axiom":
        return fault_of_axiom(why[1], formula)
    if why[0] == "detach":
        return fault_of_detachment(proof, line)
    return None


def fault_of_axiom(k, formula):
    """What is wrong with a formula as an instance of the axiom k, or None."""
    if axiom(k) is None:
        return "unknown axiom"
    if not is_instance(k, formula):
        return "no instance"
    return None


def fault_of_detachment(proof, line):
    """What is wrong with a line that is a detachment, or None."""
    formula, (_, i, j) = proof[line]
    if not (0 <= i < line and 0 <= j < line):
        return "line not before"
    whole = proof[i][0]
    if whole[0] != "if":
        return "no conditional"
    if whole[1] != proof[j][0]:
        return "other condition"
    if whole[2] != formula:
        return "other consequence"
    return None


def proved(proof):
    """The formula that a proof proves."""
    return proof[-1][0]


def hypotheses(proof):
    """The formulas that are hypotheses, each once, in the order of their first lines as such."""
    found = {}
    for formula, why in proof:
        if why[0] == "hypothesis":
            found.setdefault(repr(formula), formula)
    return tuple(found.values())


def axioms_of(proof):
    """The numbers of the axioms that stand in a proof, as a rising tuple."""
    return tuple(sorted({why[1] for _, why in proof if why[0] == "axiom"}))


def tree_size(proof):
    """How many axioms, hypotheses and detachments the last line has as a tree."""
    sizes = []
    for _, why in proof:
        if why[0] == "detach":
            sizes.append(1 + sizes[why[1]] + sizes[why[2]])
        else:
            sizes.append(1)
    return sizes[-1]
