"""Proofs from the axioms of the strengths "positive" and "minimal", or models of worlds in which there is none.

The search is Dyckhoff's, without contractions: each step makes what is known and the goal simpler. Where it fails,
its failed steps are the worlds of a model, as Pinto and Dyckhoff have shown.
"""

from conceptscript.assumptions import exchanged, with_one
from conceptscript.natural import ABSURD, Stock, apply, assume, given, meanwhile, proof_of


class Search:
    """Terms of goals from what is known, a rising tuple of numbers; each pair of both is searched once."""

    def __init__(self, stock):
        self.stock = stock
        # So many formulas are there from the beginning, with all their parts; worlds are told apart by these.
        self.many = len(stock.parts)
        self.found = {}
        self.models = {}

    def term(self, known, goal):
        """A term of the goal, or None."""
        key = (known, goal)
        if key not in self.found:
            self.found[key] = self.searched(known, goal)
        return self.found[key]

    def searched(self, known, goal):
        """A term of the goal, or None, by a first step."""
        if goal in known:
            return given(goal)
        if self.stock.parts[goal]:
            condition, consequence = self.stock.parts[goal]
            inner = self.term(with_one(known, condition), consequence)
            return None if inner is None else assume(self.stock, condition, inner)
        x = self.ready(known)
        if x is None:
            return self.term_by_cases(known, goal)
        condition, consequence = self.stock.parts[x]
        inner = self.term(exchanged(known, x, consequence), goal)
        return None if inner is None else meanwhile(apply(self.stock, given(x), given(condition)), inner)

    def ready(self, known):
        """The first conditional that is known together with its condition, or None."""
        for x in known:
            if self.stock.parts[x] and self.stock.parts[x][0] in known:
                return x
        return None

    def cases(self, known):
        """The known conditionals whose condition is a conditional and whose consequence is not known."""
        parts = self.stock.parts
        return [x for x in known if parts[x] and parts[parts[x][0]] and parts[x][1] not in known]

    def term_by_cases(self, known, goal):
        """A term of a goal that is no conditional, where nothing can be detached; None if there is none."""
        for x in self.cases(known):
            inner = self.term(self.without_condition(known, x), goal)
            if inner is None:
                return None
            condition = self.term(self.with_condition(known, x), self.stock.parts[x][0])
            if condition is not None:
                first = apply(self.stock, given(x), meanwhile(self.shortened(x), condition))
                return meanwhile(first, inner)
        return None

    def without_condition(self, known, x):
        """What is known with the consequence of a conditional in its place."""
        return exchanged(known, x, self.stock.parts[x][1])

    def with_condition(self, known, x):
        """What is known for the proof of the condition, a conditional, of the conditional x.

        From (c -> d) -> b follows d -> b, and that is enough: to prove c -> d, c is assumed.
        """
        condition, consequence = self.stock.parts[x]
        return exchanged(known, x, self.stock.conditional(self.stock.parts[condition][1], consequence))

    def shortened(self, x):
        """The term of d -> b from x, (c -> d) -> b."""
        first, second = self.stock.parts[self.stock.parts[x][0]]
        return assume(self.stock, second, apply(self.stock, given(x), assume(self.stock, first, given(second))))

    def worlds(self, known, goal):
        """Worlds of which the first one sees all; what is known holds in it, and the goal, which has no term, does not.

        A world is the rising tuple of the formulas that hold in it; it sees those in which all these hold.
        """
        known = self.stuck(known, goal)
        if known not in self.models:
            later = []
            for x in self.cases(known):
                condition = self.stock.parts[x][0]
                if not any(self.is_counter(world, condition) for world in later):
                    more = self.worlds(self.with_condition(known, x), condition)
                    later.extend([world for world in more if world not in later])
            first = self.holding(known, later)
            self.models[known] = [first] + [world for world in later if world != first]
        return self.models[known]

    def stuck(self, known, goal):
        """What is known behind all steps that lead from a goal without a term to just one other such goal."""
        while True:
            if self.stock.parts[goal]:
                condition, goal = self.stock.parts[goal]
                known = with_one(known, condition)
                continue
            x = self.ready(known)
            if x is None:
                x = self.failing_case(known, goal)
            if x is None:
                return known
            known = self.without_condition(known, x)

    def failing_case(self, known, goal):
        """The first conditional whose consequence, known in its place, gives the goal no term; or None."""
        for x in self.cases(known):
            if self.term(self.without_condition(known, x), goal) is None:
                return x
        return None

    def is_counter(self, world, x):
        """Whether the condition of a conditional holds in a world and its consequence does not."""
        condition, consequence = self.stock.parts[x]
        return condition in world and consequence not in world

    def holding(self, known, later):
        """What holds in a world in which the known atoms are given, and which sees the later worlds besides."""
        held = []
        for x in range(self.many):
            if not self.stock.parts[x]:
                if x in known:
                    held.append(x)
            elif not any(self.is_counter(world, x) for world in later + [held]):
                held.append(x)
        return tuple(held)


def decide(formula, strength):
    """("proof", a proof) of the formula, or ("counter", a model in whose first world it does not hold)."""
    return decided((), formula, strength)


def decided(assumed, formula, strength):
    """A proof of a formula from what is assumed, or a model in whose first world just the formula does not hold."""
    search, known, goal = started(assumed, formula, strength)
    term = search.term(known, goal)
    if term is None:
        return ("counter", model_of(search.stock, search.worlds(known, goal)))
    return ("proof", proof_of(search.stock, term))


def is_provable(assumed, formula, strength):
    """Whether there is a proof of the formula from what is assumed."""
    search, known, goal = started(assumed, formula, strength)
    return search.term(known, goal) is not None


def started(assumed, formula, strength):
    """A search for the strength, with the numbers of what is assumed and of the formula."""
    stock = Stock(formula, strength == "minimal")
    known = tuple(sorted({stock.number(part) for part in assumed}))
    goal = stock.number(formula)
    return Search(stock), known, goal


def model_of(stock, worlds):
    """The model of worlds, each the tuple of what holds in it, in which a world sees those in which all this holds."""
    later = tuple([seen_from(world, worlds) for world in worlds])
    true = tuple([atoms_of(stock, world) for world in worlds])
    broken = tuple([place for place, world in enumerate(worlds) if ABSURD in world])
    return ("model", later, true, broken)


def seen_from(world, worlds):
    """The places of the worlds in which all holds that holds in this one."""
    return tuple([place for place, other in enumerate(worlds) if all(x in other for x in world)])


def atoms_of(stock, world):
    """The formulas that are given in a world."""
    return tuple([stock.formulas[x] for x in world if not stock.parts[x] and x != ABSURD])
