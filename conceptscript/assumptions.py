"""What is known to a prover: rising tuples of the numbers of formulas."""


def with_one(known, x):
    """What is known and one formula more."""
    return tuple(sorted(set(known + (x,))))


def without(known, x):
    """What is known but for one formula."""
    return tuple([y for y in known if y != x])


def exchanged(known, x, other):
    """What is known with another formula in the place of x."""
    return with_one(without(known, x), other)
