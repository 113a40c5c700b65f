"""Proofs that are built line by line."""

from conceptscript.formulas import axiom, put


class Lines:
    """Lines of a proof in which no formula stands twice; each method that adds one gives its formula's line."""

    def __init__(self):
        self.lines = []
        # A formula's key is its text in Python, as tuples that grow deep are none.
        self.places = {}

    def taken(self, formula, why):
        """The line of a formula; it is added for this reason if the formula is not there."""
        key = repr(formula)
        if key not in self.places:
            self.places[key] = len(self.lines)
            self.lines.append((formula, why))
        return self.places[key]

    def instance(self, k, table):
        """An instance of the axiom k, with the table's formulas for its letters."""
        return self.taken(put(axiom(k), table), ("axiom", k))

    def detach(self, i, j):
        """What the conditional of line i and the condition of line j prove."""
        return self.taken(self.lines[i][0][2], ("detach", i, j))

    def copied(self, proof):
        """What another proof proves, with all its lines."""
        places = []
        for formula, why in proof:
            places.append(self.taken(formula, moved(why, places)))
        return places[-1]

    def upto(self, place):
        """The proof that ends with this line."""
        return tuple(self.lines[:place + 1])


def moved(why, places):
    """A line's reason with the new places of the lines that it names."""
    if why[0] == "detach":
        return ("detach", places[why[1]], places[why[2]])
    return why
