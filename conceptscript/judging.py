"""Whether values, whatever they are, are right proofs and right counters."""

from conceptscript.errors import ProofFault
from conceptscript.formulas import numbers
from conceptscript.proofs import axioms_of, check, hypotheses, proved
from conceptscript.shapes import is_proof, is_row, is_tuple
from conceptscript.truth import is_true, names_of
from conceptscript.worlds import holds, is_model


def is_right_proof(assumed, formula, strength, proof):
    """Whether a value is a proof of the formula from some of what is assumed, by axioms of the strength."""
    if not is_proof(proof) or not has_no_fault(proof) or proved(proof) != formula:
        return False
    if not all(part in assumed for part in hypotheses(proof)):
        return False
    return all(k in numbers(strength) for k in axioms_of(proof))


def has_no_fault(proof):
    """Whether a proof is right."""
    try:
        check(proof)
    except ProofFault:
        return False
    return True


def is_right_counter(assumed, formula, strength, counter):
    """Whether a value is a row or a model in which what is assumed holds, and the formula does not."""
    if strength == "full":
        return is_right_row(assumed, formula, counter)
    if not is_model(counter, strength) or holds(counter, 0, formula, strength):
        return False
    return all(holds(counter, 0, part, strength) for part in assumed)


def is_right_row(assumed, formula, counter):
    """Whether a value is a row of the letters of all that makes what is assumed true and the formula false."""
    if not is_tuple(counter, 2) or counter[0] != "row" or not is_row(counter[1]):
        return False
    names = names_of((*assumed, formula))
    row = counter[1]
    if not all(name in names for name in row):
        return False
    return not is_true(formula, row) and all(is_true(part, row) for part in assumed)
