"""Proofs that are built line by line."""

from conceptscript.formulas import axiom, put


class Lines:
    """Lines of a proof; each method that adds lines gives the number of the last of them."""

    def __init__(self):
        self.lines = []

    def added(self, formula, why):
        """A line of a formula, for this reason."""
        self.lines.append((formula, why))
        return len(self.lines) - 1

    def instance(self, k, table):
        """An instance of the axiom k, with the table's formulas for its letters."""
        return self.added(put(axiom(k), table), ("axiom", k))

    def detach(self, i, j):
        """What the conditional of line i and the condition of line j prove."""
        return self.added(self.formula(i)[2], ("detach", i, j))

    def copied(self, proof):
        """All lines of another proof."""
        start = len(self.lines)
        places = [start + line for line in range(len(proof))]
        self.lines.extend([(formula, moved(why, places)) for formula, why in proof])
        return places[-1]

    def formula(self, line):
        """The formula of a line."""
        return self.lines[line][0]

    def upto(self, line):
        """The proof that ends with this line."""
        return tuple(self.lines[:line + 1])


class LinesOnce(Lines):
    """Lines of a proof in which no formula stands twice: the line that is there stands for a later one."""

    def __init__(self):
        Lines.__init__(self)
        self.places = {}

    def once(self, formula, why):
        """The line of a formula, which is added for this reason if it is not there."""
        if not self.has(formula):
            self.places[repr(formula)] = self.added(formula, why)
        return self.places[repr(formula)]

    def has(self, formula):
        """Whether there is a line of a formula."""
        return repr(formula) in self.places

    def taken(self, proof):
        """The line of what another proof proves, of which all lines are added that are not there."""
        places = []
        for formula, why in proof:
            places.append(self.once(formula, moved(why, places)))
        return places[-1]


def moved(why, places):
    """A line's reason with the new places of the lines that it names."""
    if why[0] == "detach":
        return ("detach", places[why[1]], places[why[2]])
    return why
