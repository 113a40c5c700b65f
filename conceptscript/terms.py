"""Formulas as a graph in which letters come to stand for other formulas.

However great the formulas are that letters come to stand for, the graph grows by what is entered alone.
"""


class Terms:
    """Formulas by numbers; all that is made the same has one root."""

    def __init__(self):
        # For each number its kind and the numbers of its parts; for those of letters also their names.
        self.heads = []
        self.tails = []
        self.names = {}
        # For each number one that is the same and nearer to the root; a letter is the root of letters alone.
        self.nearer = []

    def added(self, head, tail):
        """A new number."""
        self.heads.append(head)
        self.tails.append(tail)
        self.nearer.append(len(self.nearer))
        return self.nearer[-1]

    def letter(self, name):
        """The number of a new letter."""
        x = self.added("letter", ())
        self.names[x] = name
        return x

    def conditional(self, condition, consequence):
        """The number of a new conditional between two numbers."""
        return self.added("if", (condition, consequence))

    def entered(self, formula, table):
        """The number of a formula; the table has those of its letters."""
        if formula[0] == "letter":
            return table[formula[1]]
        return self.added(formula[0], tuple([self.entered(part, table) for part in formula[1:]]))

    def root(self, x):
        """The one number for all that are the same as x."""
        while self.nearer[x] != x:
            self.nearer[x] = self.nearer[self.nearer[x]]
            x = self.nearer[x]
        return x

    def made_same(self, x, y):
        """Make two numbers the same, with their parts; False if formulas of unlike kinds would have to be the same.

        That a formula would be a part of itself is not found here, but in solved.
        """
        waiting = [(x, y)]
        while waiting:
            first, second = waiting.pop()
            first, second = self.root(first), self.root(second)
            if first == second:
                continue
            if self.heads[first] == "letter":
                self.nearer[first] = second
                continue
            self.nearer[second] = first
            if self.heads[second] != "letter":
                if self.heads[first] != self.heads[second]:
                    return False
                waiting.extend(list(zip(self.tails[first], self.tails[second])))
        return True

    def solved(self):
        """For each number the formula that it has come to stand for; None if one would be a part of itself."""
        order = parts_first(self.users(), [len(tail) for tail in self.tails])
        if len(order) < len(self.tails):
            return None
        found = {}
        for x in order:
            if self.heads[x] == "letter":
                found[x] = ("letter", self.names[x])
            else:
                found[x] = (self.heads[x],) + tuple([found[self.root(part)] for part in self.tails[x]])
        return [found[self.root(x)] for x in range(len(self.tails))]

    def users(self):
        """For each root the numbers that it is a part of, once for each place there."""
        found = {}
        for x, tail in enumerate(self.tails):
            for part in tail:
                found.setdefault(self.root(part), []).append(x)
        return found


def parts_first(users, many):
    """The numbers, those with many parts behind all of these; but for those within which one is a part of itself."""
    missing = list(many)
    order = [x for x, parts in enumerate(missing) if parts == 0]
    place = 0
    while place < len(order):
        for whole in users.get(order[place], []):
            missing[whole] -= 1
            if missing[whole] == 0:
                order.append(whole)
        place += 1
    return order
