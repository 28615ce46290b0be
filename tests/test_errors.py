"""The error classes of the interface."""

import unittest

from sweeprota import errors

WITHOUT_ATTRIBUTES = [
    "InvalidTick", "InvalidNumber", "UnknownSign", "TooLong", "OtherCorridor",
    "Contradiction", "InvalidName", "UnknownName",
]
ATTRIBUTES = {
    "SyntaxFault": {"line": 3, "column": 5},
    "CheckFault": {"reason": "tile", "line": 3, "column": 5},
    "InvalidCode": {"place": 7},
    "InvalidOperation": {"place": 7},
}


class ErrorTest(unittest.TestCase):

    def test_base_class(self):
        self.assertEqual((ValueError,), errors.SweepError.__bases__)

    def test_direct_subclasses(self):
        for name in WITHOUT_ATTRIBUTES + list(ATTRIBUTES):
            with self.subTest(name):
                self.assertEqual((errors.SweepError,), getattr(errors, name).__bases__)
                self.assertEqual("sweeprota.errors", getattr(errors, name).__module__)

    def test_attributes(self):
        for name, attributes in ATTRIBUTES.items():
            with self.subTest(name):
                error = getattr(errors, name)
                self.assertEqual(attributes, vars(error(*attributes.values())))
                self.assertEqual(attributes, vars(error(**attributes)))

    def test_without_attributes(self):
        for name in WITHOUT_ATTRIBUTES:
            with self.subTest(name):
                self.assertEqual({}, vars(getattr(errors, name)("some words")))


if __name__ == "__main__":
    unittest.main()
