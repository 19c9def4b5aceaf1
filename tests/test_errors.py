"""The exceptions: their base classes and their attributes."""

import unittest

from squaremark import errors

ATTRIBUTES = {
    "InvalidSymbol": [],
    "InvalidBlock": [],
    "BlockDecodable": [],
    "InvalidCertificate": ["index"],
    "InvalidMessage": ["index"],
    "InvalidSymbols": ["index"],
    "InvalidStrength": [],
    "InvalidSide": [],
    "MessageTooLong": [],
    "InvalidImage": ["row", "column"],
    "DecodeFailed": ["block"],
    "PartialMessage": [],
    "FrameNotFound": [],
    "InvalidCount": [],
    "InvalidView": ["index"],
    "MismatchedPart": ["index"],
    "MissingParts": ["parts"],
    "InvalidSheet": ["row", "column"],
    "InvalidPlacement": ["index"],
    "UnknownPart": [],
    "InvalidOperation": ["index"],
    "InvalidName": [],
    "UnknownCheckpoint": [],
    "ScriptError": ["row"],
    "ExecutionFailed": ["row"],
    "StepLimitExceeded": [],
    "InvalidEncoding": ["offset"],
}


class ErrorClasses(unittest.TestCase):
    def test_base_class_derives_from_value_error(self):
        self.assertEqual(errors.SquaremarkError.__bases__, (ValueError,))
        self.assertEqual(errors.SquaremarkError.__module__, "squaremark.errors")

    def test_every_class_is_a_direct_subclass(self):
        for name in ATTRIBUTES:
            with self.subTest(name):
                error = getattr(errors, name)
                self.assertEqual(error.__bases__, (errors.SquaremarkError,))
                self.assertEqual(error.__module__, "squaremark.errors")

    def test_no_other_class(self):
        classes = {name for name, value in vars(errors).items() if isinstance(value, type)}
        self.assertEqual(classes, set(ATTRIBUTES) | {"SquaremarkError"})

    def test_attributes_in_order(self):
        for name, attributes in ATTRIBUTES.items():
            with self.subTest(name):
                values = [(3, 5), 7][:len(attributes)]
                error = getattr(errors, name)(*values)
                self.assertEqual([getattr(error, attribute) for attribute in attributes], values)
                self.assertEqual(sorted(vars(error)), sorted(attributes))

    def test_attributes_by_name(self):
        for name, attributes in ATTRIBUTES.items():
            with self.subTest(name):
                values = {attribute: 4 + at for at, attribute in enumerate(attributes)}
                error = getattr(errors, name)(**values)
                self.assertEqual(vars(error), values)

    def test_attributes_belong_to_one_object(self):
        first = errors.InvalidImage(1, 2)
        second = errors.InvalidImage(3, -1)
        self.assertEqual((first.row, first.column, second.row, second.column), (1, 2, 3, -1))

    def test_attributes_are_needed(self):
        for name, attributes in ATTRIBUTES.items():
            if attributes:
                with self.subTest(name):
                    self.assertRaises(TypeError, getattr(errors, name))


if __name__ == "__main__":
    unittest.main()
