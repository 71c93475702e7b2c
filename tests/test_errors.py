import unittest

from leverhouse import errors

PLAIN = [
    "InvalidBoard",
    "InvalidState",
    "DifferentFaces",
    "NotDeterminate",
    "InvalidQuestion",
    "NothingToUndo",
    "NothingToRedo",
]
WITH_ATTRIBUTE = [
    ("UnknownName", "name", "abc"),
    ("UnknownNumber", "number", -1),
    ("InvalidNotation", "line", 7),
    ("InvalidPlay", "number", 0),
    ("TooMany", "limit", 3000),
    ("InvalidCertificate", "line", 2),
    ("InvalidTiming", "number", 5),
    ("NameInUse", "name", "b"),
]


class TestErrors(unittest.TestCase):
    def test_base_class(self):
        self.assertEqual(errors.LeverhouseError.__bases__, (ValueError,))
        self.assertEqual(errors.LeverhouseError.__module__, "leverhouse.errors")

    def test_plain_errors(self):
        for name in PLAIN:
            with self.subTest(name=name):
                error = getattr(errors, name)
                self.assertEqual(error.__bases__, (errors.LeverhouseError,))
                self.assertEqual(error.__module__, "leverhouse.errors")
                with self.assertRaises(errors.LeverhouseError):
                    raise error("told")

    def test_errors_with_an_attribute(self):
        for name, attribute, value in WITH_ATTRIBUTE:
            with self.subTest(name=name):
                error = getattr(errors, name)
                self.assertEqual(error.__bases__, (errors.LeverhouseError,))
                self.assertEqual(error.__module__, "leverhouse.errors")
                self.assertEqual(getattr(error(value), attribute), value)


if __name__ == "__main__":
    unittest.main()
