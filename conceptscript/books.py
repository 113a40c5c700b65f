"""Books: proofs in which what was proved before is a rule."""

from conceptscript.building import LinesOnce, moved
from conceptscript.errors import BookFault
from conceptscript.formulas import match
from conceptscript.proofs import fault_of_line, proved
from conceptscript.shaping import replaced, trimmed


def check_book(book):
    """None for a right book; else raises BookFault with the book's first fault."""
    rules = {}
    for entry, (name, proof) in enumerate(book):
        if name in rules:
            raise BookFault(entry, 0, "name stands twice")
        if not proof:
            raise BookFault(entry, 0, "empty")
        for line in range(len(proof)):
            reason = fault_of_entry(rules, proof, line)
            if reason is not None:
                raise BookFault(entry, line, reason)
        rules[name] = proved(proof)


def fault_of_entry(rules, proof, line):
    """The reason of the first fault of a line of an entry, or None; the rules are what earlier entries prove."""
    formula, why = proof[line]
    if why[0] == "hypothesis":
        return "hypothesis"
    if why[0] == "rule":
        return fault_of_rule(rules, why[1], formula)
    return fault_of_line(proof, line)


def fault_of_rule(rules, name, formula):
    """What is wrong with a formula as an instance of the rule of this name, or None."""
    if name not in rules:
        return "no rule"
    if match(rules[name], formula) is None:
        return "no instance"
    return None


def uses(book, name):
    """The numbers of the entries that an entry names, or that these name, and so on, rising; its own among them."""
    numbers = {entry: number for number, (entry, _) in enumerate(book)}
    used = {numbers[name]}
    for number in range(numbers[name], -1, -1):
        if number in used:
            for _, why in book[number][1]:
                if why[0] == "rule":
                    used.add(numbers[why[1]])
    return tuple(sorted(used))


def unfolded(book, name):
    """The proof of an entry without rules: their own proofs stand in it."""
    proofs = {}
    for number in uses(book, name):
        entry, proof = book[number]
        proofs[entry] = without_rules(proof, proofs)
    return proofs[name]


def without_rules(proof, proofs):
    """A proof with the rules' proofs, which have no rules, in place of its lines by rules; trimmed."""
    lines = LinesOnce()
    places = []
    for formula, why in proof:
        if why[0] == "rule" and not lines.has(formula):
            places.append(lines.taken(instance_of(proofs[why[1]], formula)))
        else:
            places.append(lines.once(formula, moved(why, places)))
    return trimmed(lines.upto(places[-1]))


def instance_of(proof, formula):
    """The proof with formulas for the letters of what it proves, so that it proves this formula."""
    return replaced(proof, match(proved(proof), formula))
