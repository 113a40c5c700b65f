"""Promise c7 and the interface under conceptscript/worlds.py."""

import random
import unittest

from conceptscript.worlds import holds, is_model
from samples import A, A0, B, C, Z9, chance_formula, cond, no
from walks import AXIOMS_OF, PATTERNS, does_hold, is_right_model

BOTH = ("positive", "minimal")

# Right models for both strengths, of one to four worlds.
MODELS = [
    ("model", ((0,),), ((),), ()),
    ("model", ((0,),), ((),), (0,)),
    ("model", ((0,),), ((A,),), ()),
    ("model", ((0,),), ((B, A, A0),), (0,)),
    ("model", ((0,),), ((Z9, ("letter", "z"), ("letter", "z0"), A, ("letter", "a9"), A0),), ()),
    ("model", ((0, 1), (1,)), ((), (A,)), ()),
    ("model", ((0, 1), (1,)), ((A,), (B, A)), (1,)),
    ("model", ((0, 1), (1,)), ((A,), (A,)), (0, 1)),
    ("model", ((0,), (0, 1)), ((A,), ()), (0,)),
    ("model", ((0,), (1,)), ((A,), (B,)), (1,)),
    ("model", ((0, 1), (0, 1)), ((A, B), (B, A)), (0, 1)),
    ("model", ((0, 1, 2), (1, 2), (2,)), ((), (A,), (A, B)), (2,)),
    ("model", ((0, 1, 2), (1,), (2,)), ((), (A,), (B,)), (1,)),
    ("model", ((0, 1, 2, 3), (1, 3), (2, 3), (3,)), ((), (A,), (B,), (C, B, A)), (3,)),
    ("model", ((0,), (0, 1), (0, 2), (0, 1, 2, 3)), ((A, B), (A,), (B,), ()), (0, 1)),
]

# Right models for "positive" alone.
POSITIVE_MODELS = [
    ("model", ((0,),), ((no(A),),), ()),
    ("model", ((0,),), ((A, no(A), no(no(A))),), ()),
    ("model", ((0, 1), (1,)), ((no(cond(A, B)),), (A, no(cond(A, B)))), ()),
    ("model", ((0, 1), (1,)), ((), (no(A), no(B))), (1,)),
]

# What is no model for any strength.
NO_MODELS = [
    # A world that does not see itself.
    ("model", ((),), ((),), ()),
    ("model", ((1,), (1,)), ((), ()), ()),
    ("model", ((0, 1), (0,)), ((), ()), ()),
    # A world that does not see all that a world sees which it sees.
    ("model", ((0, 1), (1, 2), (2,)), ((), (), ()), ()),
    ("model", ((0, 1), (0, 1, 2), (2,)), ((), (), ()), ()),
    ("model", ((0, 1, 2), (1, 2, 3), (2, 3), (3,)), ((), (), (), ()), ()),
    # Worlds that do not rise, stand twice or are none.
    ("model", ((1, 0), (1,)), ((), ()), ()),
    ("model", ((0, 0),), ((),), ()),
    ("model", ((0, 1, 1), (1,)), ((), ()), ()),
    ("model", ((0, 1),), ((),), ()),
    ("model", ((-1, 0),), ((),), ()),
    ("model", ((0, 2), (1,)), ((), ()), ()),
    # What is given in a world is not given in one that it sees.
    ("model", ((0, 1), (1,)), ((A,), ()), ()),
    ("model", ((0, 1), (1,)), ((A,), (B,)), ()),
    ("model", ((0, 1), (1,)), ((A, B), (B,)), ()),
    ("model", ((0, 1, 2), (1, 2), (2,)), ((), (A,), (B,)), ()),
    ("model", ((0, 1), (0, 1)), ((A,), (A, B)), ()),
    # Twice the same.
    ("model", ((0,),), ((A, A),), ()),
    ("model", ((0, 1), (1,)), ((), (A, B, A)), ()),
    # Conditionals, and what is no formula.
    ("model", ((0,),), ((cond(A, B),),), ()),
    ("model", ((0,),), ((A, cond(A, A)),), ()),
    ("model", ((0,),), (("a",),), ()),
    ("model", ((0,),), ((("letter", "A"),),), ()),
    ("model", ((0,),), ((("letter", "a10"),),), ()),
    ("model", ((0,),), ((("letter", "aa"),),), ()),
    ("model", ((0,),), ((("letter", ""),),), ()),
    ("model", ((0,),), ((("letter", "5"),),), ()),
    ("model", ((0,),), ((("letter", "`"),),), ()),
    ("model", ((0,),), ((("letter", "{"),),), ()),
    ("model", ((0,),), ((("letter", "a/"),),), ()),
    ("model", ((0,),), ((("letter", "a:"),),), ()),
    ("model", ((0,),), ((("letter", "\u00e4"),),), ()),
    ("model", ((0,),), ((("letter", "a\u0661"),),), ()),
    ("model", ((0,),), ((("letters", "a"),),), ()),
    ("model", ((0,),), ((("not", ("letters", "a")),),), ()),
    ("model", ((0,),), ((("not", ("not", (None, "a"))),),), ()),
    ("model", ((0,),), (((None, "a"),),), ()),
    ("model", ((0,),), ((("or", A, B),),), ()),
    ("model", ((0,),), ((("letter",),),), ()),
    ("model", ((0,),), ((("letter", "a", "b"),),), ()),
    ("model", ((0,),), ((("not", "a"),),), ()),
    ("model", ((0,),), ((("not", A, B),),), ()),
    ("model", ((0,),), ((("not", ("if", A)),),), ()),
    ("model", ((0,),), (A,), ()),
    # Broken worlds that see others, do not rise or are none.
    ("model", ((0, 1), (1,)), ((), ()), (0,)),
    ("model", ((0, 1, 2), (1, 2), (2,)), ((), (), ()), (1,)),
    ("model", ((0, 1), (1,)), ((), ()), (1, 0)),
    ("model", ((0,),), ((),), (0, 0)),
    ("model", ((0,),), ((),), (1,)),
    ("model", ((0,),), ((),), (-1,)),
    # Too many or too few rows, and no world.
    ("model", ((0,),), (), ()),
    ("model", ((0,),), ((), ()), ()),
    ("model", ((0, 1), (1,)), ((),), ()),
    ("model", (), (), ()),
    ("model", (), ((),), ()),
    # Other kinds of values.
    None, 0, 1, True, "model", "", (), [], {}, 1.5, b"model", object(),
    ("model",), ("model", ((0,),)), ("model", ((0,),), ((),)), ("model", ((0,),), ((),), (), ()),
    ["model", ((0,),), ((),), ()],
    ("row", ((0,),), ((),), ()), (None, ((0,),), ((),), ()), (("model",), ((0,),), ((),), ()),
    ("model", [(0,)], ((),), ()), ("model", ([0],), ((),), ()), ("model", ((0,),), [()], ()),
    ("model", ((0,),), ([],), ()), ("model", ((0,),), ((),), []), ("model", ((0,),), ((["letter", "a"],),), ()),
    ("model", None, ((),), ()), ("model", ((0,),), None, ()), ("model", ((0,),), ((),), None),
    ("model", (None,), ((),), ()), ("model", ((None,),), ((),), ()), ("model", ((0,),), (None,), ()),
    ("model", ((0,),), ((None,),), ()), ("model", ((0,),), ((),), (None,)),
    ("model", 1, ((),), ()), ("model", (0,), ((),), ()), ("model", ((0,),), 1, ()), ("model", ((0,),), ((),), 0),
    ("model", "0", ((),), ()), ("model", ("0",), ((),), ()), ("model", (("0",),), ((),), ()),
    ("model", ((0,),), "a", ()), ("model", ((0,),), ((),), "0"), ("model", ((0,),), ((),), ("0",)),
    ("model", ((False,),), ((),), ()), ("model", ((0, True), (1,)), ((), ()), ()),
    ("model", ((0, 1), (True,)), ((), ()), ()), ("model", ((0,),), ((),), (False,)),
    ("model", ((0.0,),), ((),), ()), ("model", ((0,),), ((),), (0.0,)),
    ("model", (((0,),),), ((),), ()), ("model", ((0,),), ((),), ((0,),)), ("model", ((0,),), (((),),), ()),
    ("model", ((0,), None), ((), ()), ()), ("model", ((0, "1"), (1,)), ((), ()), ()),
    ("model", ({0},), ((),), ()), ("model", ((0,),), ({},), ()), ("model", {0: (0,)}, ((),), ()),
]


class TestIsModel(unittest.TestCase):
    def test_right_models(self):
        for model in MODELS:
            for strength in BOTH:
                with self.subTest(model=model, strength=strength):
                    self.assertTrue(is_right_model(model, strength))
                    self.assertIs(is_model(model, strength), True)

    def test_negations_are_given_for_positive_alone(self):
        for model in POSITIVE_MODELS:
            with self.subTest(model=model):
                self.assertIs(is_model(model, "positive"), True)
                self.assertIs(is_model(model, "minimal"), False)

    def test_no_models(self):
        for model in NO_MODELS:
            for strength in BOTH:
                with self.subTest(model=model, strength=strength):
                    self.assertIs(is_model(model, strength), False)

    def test_another_strength(self):
        for model in (MODELS[0], POSITIVE_MODELS[0]):
            self.assertIs(is_model(model, "full"), False)

    def test_one_world_changed(self):
        later = ((0, 1, 2, 3), (1, 3), (2, 3), (3,))
        for world, seen in enumerate(later):
            for other in seen:
                less = tuple(x for x in seen if x != other)
                changed = later[:world] + (less,) + later[world + 1:]
                model = ("model", changed, ((), (A,), (B,), (C, B, A)), (3,))
                right = is_right_model(model, "minimal")
                self.assertIs(is_model(model, "minimal"), right)
                self.assertIs(right, (world, other) in ((0, 1), (0, 2), (1, 3), (2, 3)))

    def test_models_by_chance(self):
        rng = random.Random(61)
        found = {True: 0, False: 0}
        for _ in range(4000):
            model = chance_model(rng, rng.randint(1, 3))
            for strength in BOTH:
                right = is_right_model(model, strength)
                self.assertIs(is_model(model, strength), right)
                found[right] += 1
        self.assertGreater(min(found.values()), 500)

    def test_many_worlds(self):
        many = 60
        later = tuple(tuple(range(world, many)) for world in range(many))
        true = tuple(tuple(("letter", "abcdefghij"[at]) for at in range(world // 6)) for world in range(many))
        self.assertIs(is_model(("model", later, true, (58, 59)), "minimal"), True)
        self.assertIs(is_model(("model", later, true[::-1], (58, 59)), "minimal"), False)
        self.assertIs(is_model(("model", later, true, (57, 59)), "minimal"), False)


def chance_model(rng, many):
    """What has the shape of a model and often is one."""
    later = tuple(tuple(other for other in range(many) if other == world or rng.random() < 0.4)
                  for world in range(many))
    true = tuple(tuple(part for part in (A, B, no(A)) if rng.random() < (0.2, 0.1, 0.1)[part == B])
                 for world in range(many))
    broken = tuple(world for world in range(many) if rng.random() < 0.2)
    return ("model", later, true, broken)


class TestHolds(unittest.TestCase):
    def assert_holds(self, model, formula, strength, worlds):
        found = [world for world in range(len(model[1])) if holds(model, world, formula, strength) is True]
        self.assertEqual(found, worlds, (model, formula, strength))
        for world in range(len(model[1])):
            self.assertIn(holds(model, world, formula, strength), (True, False))

    def test_letters(self):
        for strength in BOTH:
            model = ("model", ((0, 1), (1,)), ((B,), (A, B)), ())
            self.assert_holds(model, A, strength, [1])
            self.assert_holds(model, B, strength, [0, 1])
            self.assert_holds(model, C, strength, [])
            self.assert_holds(model, A0, strength, [])

    def test_conditionals(self):
        for strength in BOTH:
            model = ("model", ((0, 1, 2), (1,), (2,)), ((), (A,), (A, B)), ())
            self.assert_holds(model, cond(A, B), strength, [2])
            self.assert_holds(model, cond(B, A), strength, [0, 1, 2])
            self.assert_holds(model, cond(A, A), strength, [0, 1, 2])
            self.assert_holds(model, cond(B, C), strength, [1])
            self.assert_holds(model, cond(cond(A, B), A), strength, [0, 1, 2])
            self.assert_holds(model, cond(C, B), strength, [0, 1, 2])
            self.assert_holds(model, cond(cond(B, A), A), strength, [1, 2])
            peirce = cond(cond(cond(A, B), A), A)
            self.assert_holds(("model", ((0, 1), (1,)), ((), (A,)), ()), peirce, strength, [1])

    def test_negations_for_positive_are_given(self):
        model = ("model", ((0, 1), (1,)), ((no(A),), (A, no(A), no(no(A)))), ())
        self.assert_holds(model, no(A), "positive", [0, 1])
        self.assert_holds(model, no(no(A)), "positive", [1])
        self.assert_holds(model, no(B), "positive", [])
        self.assert_holds(model, cond(A, no(A)), "positive", [0, 1])
        self.assert_holds(model, cond(no(A), A), "positive", [1])
        self.assert_holds(model, no(cond(A, A)), "positive", [])
        # That a world is broken does nothing here.
        self.assert_holds(("model", ((0,),), ((A,),), (0,)), no(A), "positive", [])
        self.assert_holds(("model", ((0,),), ((A,),), (0,)), cond(A, B), "positive", [])

    def test_negations_for_minimal(self):
        model = ("model", ((0, 1), (1,)), ((), (A,)), ())
        self.assert_holds(model, no(A), "minimal", [])
        self.assert_holds(model, no(no(A)), "minimal", [0, 1])
        self.assert_holds(model, no(B), "minimal", [0, 1])
        self.assert_holds(model, cond(no(no(A)), A), "minimal", [1])
        self.assert_holds(model, no(no(B)), "minimal", [])

    def test_broken_worlds_for_minimal(self):
        model = ("model", ((0, 1), (1,)), ((), (A,)), (1,))
        self.assert_holds(model, no(A), "minimal", [0, 1])
        self.assert_holds(model, no(B), "minimal", [0, 1])
        self.assert_holds(model, no(cond(A, A)), "minimal", [1])
        self.assert_holds(model, no(no(A)), "minimal", [1])
        self.assert_holds(model, cond(no(A), B), "minimal", [])
        broken = ("model", ((0,),), ((),), (0,))
        self.assert_holds(broken, no(A), "minimal", [0])
        self.assert_holds(broken, no(no(A)), "minimal", [0])
        self.assert_holds(broken, A, "minimal", [])
        self.assert_holds(broken, cond(no(no(A)), A), "minimal", [])
        self.assert_holds(broken, cond(A, no(A)), "minimal", [0])

    def test_against_a_walk_and_what_holds_goes_on(self):
        rng = random.Random(62)
        many = 0
        while many < 300:
            model = chance_model(rng, rng.randint(1, 4))
            for strength in BOTH:
                if is_right_model(model, strength):
                    many += 1
                    formula = chance_formula(rng, rng.randint(1, 14), ["a", "b", "c"])
                    for world, seen in enumerate(model[1]):
                        held = holds(model, world, formula, strength)
                        self.assertIs(held, does_hold(model, world, formula, strength))
                        if held:
                            self.assertTrue(all(holds(model, other, formula, strength) for other in seen))

    def test_axioms_of_the_strength_hold_in_all_worlds(self):
        rng = random.Random(63)
        for _ in range(300):
            model = chance_model(rng, rng.randint(1, 4))
            for strength in BOTH:
                if is_right_model(model, strength):
                    for k in AXIOMS_OF[strength]:
                        for world in range(len(model[1])):
                            self.assertIs(holds(model, world, PATTERNS[k], strength), True)

    def test_up_to_the_bounds(self):
        rng = random.Random(64)
        names = ["a", "b", "c"]
        for _ in range(20):
            formula = chance_formula(rng, 400, names)
            for strength in BOTH:
                self.assertIn(holds(MODELS[-1], 3, formula, strength), (True, False))


if __name__ == "__main__":
    unittest.main()
