"""Sequent proofs without cuts.

All steps but cuts can be taken back: where no row breaks a sequent, none breaks those that its parts must prove. So no
way back is ever needed. Here a sequent is the rising tuple of the marks of its formulas: twice the number of a formula
on the left, and one more for a formula on the right. (So mark ^ 1 stands for the formula on the other side.)
"""

from conceptscript.assumptions import with_one, without
from conceptscript.formulas import size
from conceptscript.inferences import needed


class Planner:
    """Plans of proofs: tuples (kind, formula, plans of the parts), with the marks that a plan needs."""

    def __init__(self):
        self.numbers = {}
        self.formulas = []
        self.sizes = []
        # For each mark the marks that a step puts in for it, a tuple for each part.
        self.branches = []
        self.found = {}

    def number(self, formula):
        """The number of a formula."""
        key = repr(formula)
        if key not in self.numbers:
            inner = [] if formula[0] == "letter" else [2 * self.number(part) for part in formula[1:]]
            self.numbers[key] = len(self.formulas)
            self.formulas.append(formula)
            self.sizes.append(size(formula))
            self.branches.extend(branches_of(formula[0], inner))
        return self.numbers[key]

    def plan(self, marks):
        """The pair of a plan for the sequent with these marks and the marks that it needs."""
        if marks not in self.found:
            # From the last one back, so that only a step with several parts that are not closed goes deeper.
            for later in reversed(self.straight(marks)):
                self.found[later] = self.planned(later)
        return self.found[marks]

    def straight(self, marks):
        """The sequent and those behind it, up to one that is closed or of which several parts are not."""
        chain = [marks]
        while True:
            if clash(chain[-1]) is not None:
                return chain
            parts = self.parts_of(chain[-1], self.next_mark(chain[-1]))
            rest = [part for part in parts if clash(part) is None]
            if len(rest) != 1:
                return chain
            chain.append(rest[0])

    def planned(self, marks):
        """The pair of a plan and what it needs, by a first step."""
        closed = clash(marks)
        if closed is not None:
            return (("start", self.formulas[closed // 2], ()), (closed, closed + 1))
        mark = self.next_mark(marks)
        plans = []
        needs = (mark,)
        for news, part in zip(self.branches[mark], self.parts_of(marks, mark)):
            plan, wanted = self.plan(part)
            rest = [other for other in wanted if other not in news]
            if len(rest) == len(wanted):
                # The part's proof needs nothing of what the step puts in, so the step is left out.
                return (plan, wanted)
            plans.append(plan)
            for other in rest:
                needs = with_one(needs, other)
        return ((self.kind(mark), self.formulas[mark // 2], tuple(plans)), needs)

    def kind(self, mark):
        """The kind of the step for a mark."""
        side = "left" if mark % 2 == 0 else "right"
        return f"{self.formulas[mark // 2][0]} {side}"

    def parts_of(self, marks, mark):
        """The sequents that the parts of the step for a mark must prove."""
        parts = []
        for news in self.branches[mark]:
            part = without(marks, mark)
            for new in news:
                part = with_one(part, new)
            parts.append(part)
        return parts

    def next_mark(self, marks):
        """The mark to take next: few parts that are not closed; then a great formula, before parts of it are taken."""
        held = set(marks)
        ranks = []
        for mark in marks:
            if self.branches[mark]:
                unclosed = 0
                for news in self.branches[mark]:
                    if not any([new ^ 1 in held or new ^ 1 in news for new in news]):
                        unclosed += 1
                ranks.append((unclosed, -self.sizes[mark // 2], mark))
        return min(ranks)[2]


def clash(marks):
    """The left mark of the first formula that stands on both sides, or None."""
    held = set(marks)
    for mark in marks:
        if mark % 2 == 0 and mark + 1 in held:
            return mark
    return None


def branches_of(head, inner):
    """What is put in for a formula on the left and on the right, out of the left marks of its parts."""
    if head == "letter":
        return [(), ()]
    if head == "not":
        return [((inner[0] + 1,),), ((inner[0],),)]
    return [((inner[0] + 1,), (inner[1],)), ((inner[0], inner[1] + 1),)]


def cut_free(left, right):
    """A proof without cuts of a sequent that no row breaks."""
    planner = Planner()
    marks = [2 * planner.number(formula) for formula in left] + [2 * planner.number(formula) + 1 for formula in right]
    plan, _ = planner.plan(tuple(sorted(marks)))
    return built(plan, left, right)


def built(plan, left, right):
    """The proof of a sequent by a plan."""
    kind, formula, plans = plan
    parts = []
    for inner, (first, second) in zip(plans, needed(kind, left, right, formula)):
        parts.append(built(inner, first, second))
    return (kind, left, right, formula, tuple(parts))
