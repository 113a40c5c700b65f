"""The interface under conceptscript/errors.py."""

import unittest

from conceptscript.errors import BookFault, DrawingFault, ProofFault, ScriptError, TextFault

FAULTS = [
    (TextFault, {"place": 3, "reason": "unexpected sign"}),
    (DrawingFault, {"row": 2, "column": 5}),
    (ProofFault, {"line": 7, "reason": "no instance"}),
    (BookFault, {"entry": 1, "line": 4, "reason": "no rule"}),
]


class TestFaults(unittest.TestCase):
    def test_fields_are_set_when_the_object_is_created(self):
        for kind, fields in FAULTS:
            with self.subTest(kind=kind.__name__):
                fault = kind(*fields.values())
                self.assertEqual(vars(fault), fields)

    def test_all_are_below_script_error_and_value_error(self):
        self.assertTrue(issubclass(ScriptError, ValueError))
        for kind, _ in FAULTS:
            self.assertTrue(issubclass(kind, ScriptError))

    def test_none_is_below_another(self):
        for kind, _ in FAULTS:
            for other, _ in FAULTS:
                self.assertEqual(issubclass(kind, other), kind is other)

    def test_they_are_caught_by_their_bases(self):
        for kind, fields in FAULTS:
            for base in (kind, ScriptError, ValueError):
                with self.assertRaises(base):
                    raise kind(*fields.values())


if __name__ == "__main__":
    unittest.main()
