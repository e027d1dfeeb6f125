"""The error classes of the interface."""

import unittest

from emptiesback import errors

ATTRIBUTES = {
    "InvalidOffer": "index",
    "TooGenerous": None,
    "UnknownKind": None,
    "InvalidNumber": None,
    "InvalidStep": "index",
    "Contradiction": None,
    "InvalidKind": "name",
    "NotEnough": "name",
    "InvalidReceipt": "row",
}


class Errors(unittest.TestCase):
    def test_base_class_is_a_value_error(self):
        self.assertTrue(issubclass(errors.TradeError, ValueError))
        self.assertIs(errors.TradeError.__base__, ValueError)

    def test_all_others_are_subclasses_of_the_base_class(self):
        for name in ATTRIBUTES:
            self.assertTrue(issubclass(getattr(errors, name), errors.TradeError), name)

    def test_none_is_a_subclass_of_another_one(self):
        for one in ATTRIBUTES:
            for other in ATTRIBUTES:
                if one != other:
                    self.assertFalse(issubclass(getattr(errors, one), getattr(errors, other)), (one, other))

    def test_attributes_are_set_when_the_object_is_created(self):
        for name, attribute in ATTRIBUTES.items():
            if attribute:
                value = "rag" if attribute == "name" else 2
                self.assertEqual(vars(getattr(errors, name)(value)), {attribute: value})
                self.assertEqual(vars(getattr(errors, name)(**{attribute: value})), {attribute: value})

    def test_the_others_are_created_with_a_message(self):
        for name, attribute in ATTRIBUTES.items():
            if not attribute:
                self.assertEqual(str(getattr(errors, name)("why")), "why")

    def test_errors_of_the_package_can_be_shown(self):
        for name, attribute in ATTRIBUTES.items():
            if attribute:
                self.assertNotEqual(str(getattr(errors, name)("1")), "")


if __name__ == "__main__":
    unittest.main()
