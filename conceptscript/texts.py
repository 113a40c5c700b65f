"""Formulas as texts."""

from conceptscript.errors import TextFault


def write(formula):
    """The text of a formula."""
    written = []
    waiting = [formula]
    while waiting:
        part = waiting.pop()
        if isinstance(part, str):
            written.append(part)
        else:
            waiting.extend(pieces(part)[::-1])
    return "".join(written)


def pieces(formula):
    """The signs and the formulas of which the text of a formula consists, in their order."""
    if formula[0] == "letter":
        return [formula[1]]
    if formula[0] == "not":
        return ["~"] + grouped(formula[1])
    return grouped(formula[1]) + [" -> ", formula[2]]


def grouped(formula):
    """The pieces of a formula that is negated or that is a condition."""
    if formula[0] == "if":
        return ["(", formula, ")"]
    return [formula]


def read(text):
    """The formula that a text means; raises TextFault.

    What is begun and not ended waits in a list: pairs of "~", "(" or "->" and, for "->", its condition.
    """
    # A list, not recursion: a text may have any number of needless parentheses within one another.
    waiting = []
    formula = None
    for place, word in words(text):
        if formula is None:
            formula = begun(waiting, place, word)
        else:
            formula = gone_on(waiting, formula, place, word)
    if formula is not None:
        formula = behind_conditions(waiting, formula)
    if formula is None or waiting:
        raise TextFault(len(text), "unexpected end")
    return formula


def words(text):
    """The words of a text with their places; a sign that begins no word stands for itself."""
    found = []
    place = 0
    while place < len(text):
        word = word_at(text, place)
        if word != " ":
            found.append((place, word))
        place += len(word)
    return found


def word_at(text, place):
    """The word or the sign that begins at a place of a text."""
    pair = text[place:place + 2]
    if pair == "-":
        # Nothing is wrong at the last sign yet: it begins a "->" that the text's end cuts short.
        return "->"
    if pair == "->" or is_small(pair[0]) and is_digit(pair[1:]):
        return pair
    return pair[0]


def is_small(sign):
    """Whether a sign is one of a to z."""
    return "a" <= sign <= "z"


def is_digit(sign):
    """Whether a sign is one of 0 to 9; no sign is none."""
    # isdigit would also take digits beyond ASCII.
    return "0" <= sign <= "9"


def begun(waiting, place, word):
    """Take a word where a formula must begin; the formula that ends with it, or None."""
    if word in ("~", "("):
        waiting.append((word, None))
        return None
    if not is_small(word[0]):
        raise TextFault(place, "unexpected sign")
    return negated(waiting, ("letter", word))


def gone_on(waiting, formula, place, word):
    """Take a word behind a formula; the formula that ends with it, or None."""
    if word == "->":
        waiting.append((word, formula))
        return None
    if word != ")":
        raise TextFault(place, "unexpected sign")
    group = behind_conditions(waiting, formula)
    if not waiting:
        raise TextFault(place, "unexpected sign")
    waiting.pop()
    return negated(waiting, group)


def negated(waiting, formula):
    """The formula with the negations that wait right before it."""
    while waiting and waiting[-1][0] == "~":
        waiting.pop()
        formula = ("not", formula)
    return formula


def behind_conditions(waiting, formula):
    """The formula as the last consequence of the conditions that wait right before it."""
    while waiting and waiting[-1][0] == "->":
        _, condition = waiting.pop()
        formula = ("if", condition, formula)
    return formula
