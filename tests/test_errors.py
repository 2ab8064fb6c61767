"""0.3 and the interface of enoughchecks/errors.py."""

import copy
import pickle
import unittest

from enoughchecks import errors

FIELDS = {
    "BadWeb": ["part", "at"], "TooMany": ["most"], "BadText": ["line"], "NoName": ["name"], "NoAnswer": ["check"],
    "NoWay": [], "NoPlace": [], "NoNumber": [], "NoOrder": [], "NoArrow": [], "NoChecks": [], "NoWorld": [],
    "NoThing": [], "NoPair": [], "NotEnough": [], "NoExchange": [], "NoList": [], "NoPrices": [], "NoSort": [],
    "NoTold": [], "NoRoot": [], "NoFailed": [], "NoCheck": [], "NothingDone": [], "NoLine": [],
}
ANY_VALUES = [0, -1, 1500, "places", None, True, [1], {"a": 1}, ((0,), (1,)), b"x", object()]


class ErrorClasses(unittest.TestCase):
    def test_there_are_25_and_the_base(self):
        self.assertEqual(len(FIELDS), 25)
        own = {name for name, value in vars(errors).items() if isinstance(value, type)}
        self.assertEqual(own, {*FIELDS, "CheckError"})

    def test_each_derives_directly(self):
        self.assertEqual(errors.CheckError.__bases__, (ValueError,))
        for name in FIELDS:
            self.assertEqual(getattr(errors, name).__bases__, (errors.CheckError,), name)

    def test_each_keeps_just_its_fields_whatever_is_passed(self):
        for name, fields in FIELDS.items():
            for value in ANY_VALUES:
                values = [value, "other"][:len(fields)]
                error = getattr(errors, name)(*values)
                self.assertEqual(vars(error), dict(zip(fields, values)), name)

    def test_each_is_made_with_just_its_fields(self):
        for name, fields in FIELDS.items():
            with self.assertRaises(TypeError, msg=name):
                getattr(errors, name)(*fields, "one more")
            if fields:
                with self.assertRaises(TypeError, msg=name):
                    getattr(errors, name)(*fields[1:])

    def test_each_can_be_raised_and_caught_as_its_bases(self):
        for name, fields in FIELDS.items():
            for base in (errors.CheckError, ValueError):
                with self.assertRaises(base):
                    raise getattr(errors, name)(*fields)

    def test_copies_keep_the_fields(self):
        for name, fields in FIELDS.items():
            error = getattr(errors, name)(*fields)
            for twin in (copy.copy(error), pickle.loads(pickle.dumps(error))):
                self.assertIs(type(twin), type(error))
                self.assertEqual(vars(twin), vars(error))

    def test_an_error_is_equal_to_nothing_of_another_kind(self):
        self.assertNotEqual(errors.NoWay(), errors.NoPlace())
        self.assertNotEqual(errors.TooMany(1500), 1500)
        self.assertNotEqual(errors.TooMany(1500), errors.BadText(1500))


if __name__ == "__main__":
    unittest.main()
