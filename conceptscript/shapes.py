"""Whether values, whatever they are, have the shapes that the program knows."""


def is_tuple(value, many):
    """Whether a value is a tuple of so many items."""
    return type(value) is tuple and len(value) == many


def is_number(value):
    """Whether a value is a whole number."""
    return type(value) is int


def is_name(value):
    """Whether a value is the name of a letter."""
    if type(value) is not str or len(value) not in (1, 2):
        return False
    return "a" <= value[0] <= "z" and (len(value) == 1 or "0" <= value[1] <= "9")


def is_formula(value):
    """Whether a value is a formula."""
    waiting = [value]
    while waiting:
        part = waiting.pop()
        if is_tuple(part, 3) and part[0] == "if" or is_tuple(part, 2) and part[0] == "not":
            waiting.extend(part[1:])
        elif not (is_tuple(part, 2) and part[0] == "letter" and is_name(part[1])):
            return False
    return True


def is_proof(value):
    """Whether a value has the shape of a proof, be it one with faults."""
    if type(value) is not tuple:
        return False
    return all(is_tuple(line, 2) and is_formula(line[0]) and is_reason(line[1]) for line in value)


def is_reason(value):
    """Whether a value has the shape of a line's reason."""
    if value == ("hypothesis",):
        return True
    if is_tuple(value, 2):
        return value[0] == "axiom" and is_number(value[1])
    return is_tuple(value, 3) and value[0] == "detach" and is_number(value[1]) and is_number(value[2])


def is_rising(value, low, high):
    """Whether a value is a rising tuple of whole numbers from low to high - 1."""
    if type(value) is not tuple or not all(is_number(item) for item in value):
        return False
    return all(low <= item < high for item in value) and rises(value)


def is_row(value):
    """Whether a value is a row: a rising tuple of letters' names."""
    return type(value) is tuple and all(is_name(item) for item in value) and rises(value)


def rises(items):
    """Whether each item is greater than the one before it."""
    return all(items[at] < items[at + 1] for at in range(len(items) - 1))
