"""Models of worlds, and what holds in them."""

from conceptscript.shapes import is_formula, is_rising, is_tuple


def is_model(model, strength):
    """Whether a value is a model of worlds for the strength, "positive" or "minimal"."""
    if strength not in ("positive", "minimal") or not is_tuple(model, 4) or model[0] != "model":
        return False
    _, later, true, broken = model
    if not are_worlds(later) or not is_tuple(true, len(later)) or not is_rising(broken, 0, len(later)):
        return False
    if not all(is_given(formulas, strength) for formulas in true):
        return False
    return all(goes_on(model, world, other) for world, seen in enumerate(later) for other in seen)


def are_worlds(later):
    """Whether a value tells for each world what it sees: itself, and all that these worlds see."""
    if type(later) is not tuple or not later:
        return False
    if not all(is_rising(seen, 0, len(later)) for seen in later):
        return False
    return all(world in seen and sees_on(later, seen) for world, seen in enumerate(later))


def sees_on(later, seen):
    """Whether all that the seen worlds see is among them."""
    near = set(seen)
    for other in seen:
        if not all([far in near for far in later[other]]):
            return False
    return True


def is_given(formulas, strength):
    """Whether a value is a tuple of formulas, none of them twice, that can be given in a world."""
    if type(formulas) is not tuple or not all(is_formula(formula) for formula in formulas):
        return False
    kinds = ("letter", "not") if strength == "positive" else ("letter",)
    if not all(formula[0] in kinds for formula in formulas):
        return False
    return len({repr(formula) for formula in formulas}) == len(formulas)


def goes_on(model, world, other):
    """Whether what is given in a world is given in another one, and this one is broken if that one is."""
    _, _, true, broken = model
    if world in broken and other not in broken:
        return False
    return all(formula in true[other] for formula in true[world])


def holds(model, world, formula, strength):
    """Whether a formula holds in a world of a model."""
    return holding(model, formula, strength)[world]


def holding(model, formula, strength):
    """For each world whether the formula holds in it."""
    _, later, true, broken = model
    if formula[0] == "if":
        conditions = holding(model, formula[1], strength)
        consequences = holding(model, formula[2], strength)
        faults = [first and not second for first, second in zip(conditions, consequences)]
    elif formula[0] == "not" and strength == "minimal":
        held = holding(model, formula[1], strength)
        faults = [held[world] and world not in broken for world in range(len(later))]
    else:
        return [formula in formulas for formulas in true]
    return [not any([faults[world] for world in seen]) for seen in later]
