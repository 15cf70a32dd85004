"""The errors [4] [20]."""

import unittest

from leadswitch import errors
from values import any_values

FIELDS = {
    "Wrong": ["place"], "NotLegal": [], "Stopped": ["block", "turn", "run"], "NoBundle": ["one", "other"],
    "Frozen": ["bundle"], "NotValid": ["broker"], "NotLed": ["broker"], "Impossible": ["at"],
    "TooMany": ["limit"], "Nothing": [], "NoText": [], "NoCommand": [],
}


def made(name):
    return getattr(errors, name)(*range(len(FIELDS[name])))


class ErrorsTest(unittest.TestCase):
    def test_there_are_thirteen_classes(self):
        found = [name for name, thing in vars(errors).items() if isinstance(thing, type)]
        self.assertEqual(sorted(found), sorted(["LeadError"] + list(FIELDS)))

    def test_each_is_caught_as_lead_error_and_as_value_error(self):
        for name in FIELDS:
            for wider in (errors.LeadError, ValueError):
                with self.subTest(name=name, wider=wider.__name__):
                    with self.assertRaises(wider):
                        raise made(name)

    def test_none_is_caught_as_another_one(self):
        for name in FIELDS:
            for other in FIELDS:
                with self.subTest(name=name, other=other):
                    self.assertIs(isinstance(made(name), getattr(errors, other)), name == other)
            self.assertEqual(getattr(errors, name).__bases__, (errors.LeadError,))
        self.assertEqual(errors.LeadError.__bases__, (ValueError,))

    def test_lead_error_is_none_of_the_others(self):
        for name in FIELDS:
            self.assertNotIsInstance(errors.LeadError("why"), getattr(errors, name))

    def test_lead_error_is_made_of_any_value(self):
        for thing in any_values():
            with self.assertRaises(ValueError):
                raise errors.LeadError(thing)

    def test_fields_are_the_very_objects(self):
        for name, fields in FIELDS.items():
            for thing in any_values():
                with self.subTest(name=name, kind=thing.__class__):
                    passed = [thing] + [object() for _ in fields[1:]]
                    error = getattr(errors, name)(*passed[:len(fields)])
                    for field, one in zip(fields, passed):
                        self.assertIs(getattr(error, field), one)
                    self.assertEqual(sorted(vars(error)), sorted(fields))

    def test_each_field_accepts_any_value(self):
        for name, fields in FIELDS.items():
            for at in range(len(fields)):
                for thing in any_values():
                    passed = [7] * len(fields)
                    passed[at] = thing
                    error = getattr(errors, name)(*passed)
                    self.assertIs(getattr(error, fields[at]), thing)

    def test_fields_are_kept_without_a_copy(self):
        inner = [1]
        error = errors.Wrong(inner)
        inner.append(2)
        self.assertEqual(error.place, [1, 2])


if __name__ == "__main__":
    unittest.main()
