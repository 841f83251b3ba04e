"""[6] and the interface's heading `ledgerproof/errors.py`."""

import unittest

from ledgerproof import errors

ATTRIBUTES = {
    "ReadError": ("place",),
    "Mistakes": ("diagnostics",),
    "BadValue": ("number",),
    "NeedsJournal": (),
    "NeedsModel": (),
    "BadParticipant": ("number",),
    "BadTransaction": ("number", "reason"),
    "TooMany": (),
    "UnknownClaim": ("name",),
    "NotASum": (),
    "DoesNotHold": (),
    "NotRefuted": (),
    "NothingToUndo": (),
    "NothingToRedo": (),
}

VALUES = {
    "place": 13,
    "diagnostics": ((7, "duplicate"), (18, "sector")),
    "number": 2,
    "reason": "payer sector",
    "name": "growth",
}


class ErrorsTest(unittest.TestCase):
    def test_base_class_is_a_direct_subclass_of_value_error(self):
        self.assertEqual(errors.ProofError.__bases__, (ValueError,))

    def test_the_module_has_these_classes_and_no_others(self):
        found = {name for name, thing in vars(errors).items() if isinstance(thing, type)}
        self.assertEqual(found, {"ProofError", *ATTRIBUTES})
        self.assertEqual(len(ATTRIBUTES), 14)

    def test_each_is_a_direct_subclass_defined_here(self):
        for name in ATTRIBUTES:
            with self.subTest(name):
                error = getattr(errors, name)
                self.assertEqual(error.__bases__, (errors.ProofError,))
                self.assertEqual(error.__module__, "ledgerproof.errors")
                self.assertEqual(error.__name__, name)

    def test_none_is_a_subclass_of_another(self):
        for first in ATTRIBUTES:
            for second in ATTRIBUTES:
                if first != second:
                    self.assertFalse(issubclass(getattr(errors, first), getattr(errors, second)))

    def test_attributes_are_given_in_the_order_in_which_they_are_listed(self):
        for name, attributes in ATTRIBUTES.items():
            with self.subTest(name):
                error = getattr(errors, name)(*[VALUES[attribute] for attribute in attributes])
                self.assertEqual(vars(error), {attribute: VALUES[attribute] for attribute in attributes})

    def test_each_object_has_its_own_attributes(self):
        first = errors.BadTransaction(0, "type")
        second = errors.BadTransaction(1, "same")
        self.assertEqual((first.number, first.reason), (0, "type"))
        self.assertEqual((second.number, second.reason), (1, "same"))

    def test_errors_are_raised_and_caught_by_their_bases(self):
        for name, attributes in ATTRIBUTES.items():
            for base in (ValueError, errors.ProofError, getattr(errors, name)):
                with self.subTest(name, base=base), self.assertRaises(base):
                    raise getattr(errors, name)(*[VALUES[attribute] for attribute in attributes])

    def test_errors_without_attributes_are_made_without_arguments(self):
        for name, attributes in ATTRIBUTES.items():
            if not attributes:
                self.assertEqual(vars(getattr(errors, name)()), {})
        self.assertEqual(vars(errors.ProofError()), {})

    def test_attributes_are_asked_for(self):
        for name, attributes in ATTRIBUTES.items():
            if attributes:
                with self.subTest(name), self.assertRaises(TypeError):
                    getattr(errors, name)()


if __name__ == "__main__":
    unittest.main()
