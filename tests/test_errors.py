import unittest

from pactloom import errors


class TestErrors(unittest.TestCase):
    FIELDS = {
        "SourceError": "at",
        "NameTwice": "name",
        "UnknownName": "name",
        "SelfLetter": "name",
        "WrongCount": "name",
        "TableError": "line",
        "PaperError": "line",
    }

    def test_pact_error_stands_under_value_error(self):
        self.assertTrue(issubclass(errors.PactError, ValueError))
        self.assertEqual(errors.PactError.__module__, "pactloom.errors")

    def test_every_class_stands_under_pact_error_and_under_no_other(self):
        names = [*self.FIELDS, "TooLarge", "NotPossible"]
        for name in names:
            kind = getattr(errors, name)
            self.assertTrue(issubclass(kind, errors.PactError), name)
            self.assertEqual(kind.__module__, "pactloom.errors")
            for other in names:
                self.assertEqual(issubclass(kind, getattr(errors, other)), name == other)

    def test_each_field_is_the_only_argument(self):
        for name, field in self.FIELDS.items():
            worth = 7 if field != "name" else "bob"
            kind = getattr(errors, name)
            self.assertEqual(getattr(kind(worth), field), worth, name)
            self.assertEqual(getattr(kind(**{field: worth}), field), worth, name)
            with self.assertRaises(TypeError):
                kind()
            with self.assertRaises(TypeError):
                kind(worth, worth)

    def test_errors_without_a_field(self):
        for kind in (errors.TooLarge, errors.NotPossible):
            with self.assertRaises(errors.PactError):
                raise kind()


if __name__ == "__main__":
    unittest.main()
