"""The error classes: [12]."""

import unittest

from minusone import errors

UNDER = {
    "NoSeat": LookupError, "NoLeg": LookupError,
    "NoVoice": ValueError, "NoEar": ValueError, "BadText": ValueError, "BadLine": ValueError,
}
VALUES = {
    "NoSeat": ("name", "ann"), "NoLeg": ("leg", ("j", "there")),
    "NoVoice": ("name", "bob"), "NoEar": ("name", "cid"), "BadLine": ("number", 7),
}


class Errors(unittest.TestCase):
    def test_each_is_directly_under_its_builtin_class(self):
        for name, base in UNDER.items():
            self.assertEqual(getattr(errors, name).__bases__, (base,), name)

    def test_no_other_classes(self):
        found = [name for name, thing in vars(errors).items() if isinstance(thing, type)]
        self.assertEqual(sorted(found), sorted(UNDER))

    def test_value_is_kept_under_its_name(self):
        for name, (attribute, value) in VALUES.items():
            made = getattr(errors, name)
            for error in (made(value), made(**{attribute: value})):
                self.assertEqual(vars(error), {attribute: value}, name)

    def test_one_value_and_no_other(self):
        for name in VALUES:
            with self.assertRaises(TypeError):
                getattr(errors, name)()
            with self.assertRaises(TypeError):
                getattr(errors, name)("a", "b")

    def test_bad_text_takes_no_value(self):
        self.assertEqual(vars(errors.BadText()), {})
        with self.assertRaises(TypeError):
            errors.BadText("a")

    def test_not_caught_as_one_another(self):
        for name in UNDER:
            for other in UNDER:
                if name != other:
                    self.assertFalse(issubclass(getattr(errors, name), getattr(errors, other)), (name, other))


if __name__ == "__main__":
    unittest.main()
