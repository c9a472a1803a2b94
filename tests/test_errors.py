"""[4]: the errors."""

import unittest

from saymakers import errors

FIELDS = {
    "InvalidText": ["at"], "InvalidSaying": ["at"], "InvalidSheet": ["at"], "InvalidFilling": ["at"],
    "InvalidMakers": ["at"], "InvalidRules": ["at"], "InvalidBook": ["at"], "InvalidRow": ["at"],
    "InvalidPremises": ["at"], "InvalidProof": ["at"], "InvalidFacts": ["at"], "InvalidLot": ["at"],
    "InvalidWorld": ["at"], "InvalidSigned": ["at"], "InvalidIndex": ["at"], "Refused": ["at"],
    "InvalidSize": ["word"], "NoMaker": ["name"], "NoRule": ["number"], "NotCalm": ["right", "left", "row"],
    "InvalidCommand": [],
}


class ErrorsTest(unittest.TestCase):
    def test_base_and_direct_subclasses(self):
        self.assertEqual(errors.SayError.__bases__, (Exception,))
        for name in FIELDS:
            error = getattr(errors, name)
            self.assertEqual(error.__bases__, (errors.SayError,))
            self.assertEqual(error.__module__, "saymakers.errors")

    def test_arguments_are_kept_themselves(self):
        for name, fields in FIELDS.items():
            things = [[], {"a": 1}, (1, [2])][:len(fields)]
            for error in (getattr(errors, name)(*things), getattr(errors, name)(**dict(zip(fields, things)))):
                for field, thing in zip(fields, things):
                    self.assertIs(getattr(error, field), thing)

    def test_they_take_just_these_arguments(self):
        for name, fields in FIELDS.items():
            if fields:
                with self.assertRaises(TypeError):
                    getattr(errors, name)()

    def test_they_can_be_raised_and_caught(self):
        for name, fields in FIELDS.items():
            with self.assertRaises(errors.SayError):
                raise getattr(errors, name)(*range(len(fields)))


if __name__ == "__main__":
    unittest.main()
