"""The error classes."""

import unittest

from placehues import errors

WITH_VALUE = [("NoPlace", LookupError, "place"), ("BadLine", ValueError, "line")]
WITHOUT_VALUE = ["CanNot", "TooMuch", "Unfit"]


class Errors(unittest.TestCase):
    def test_one_base_class_each(self):
        for name, base, _ in WITH_VALUE:
            self.assertEqual(getattr(errors, name).__bases__, (base,))
        for name in WITHOUT_VALUE:
            self.assertEqual(getattr(errors, name).__bases__, (ValueError,))

    def test_defined_in_this_file(self):
        for name in [row[0] for row in WITH_VALUE] + WITHOUT_VALUE:
            self.assertEqual(getattr(errors, name).__module__, "placehues.errors")

    def test_a_value_is_kept(self):
        for name, _, kept in WITH_VALUE:
            own = getattr(errors, name)
            for value in (0, 1, 7, 10 ** 30, 10 ** 5000):
                with self.subTest(name, value=len(hex(value))):
                    self.assertEqual(vars(own(value)), {kept: value})
                    self.assertEqual(vars(own(**{kept: value})), {kept: value})
                    self.assertIsInstance(str(own(value)), str)

    def test_a_value_is_wanted(self):
        for name, _, _ in WITH_VALUE:
            with self.assertRaises(TypeError):
                getattr(errors, name)()

    def test_without_value(self):
        for name in WITHOUT_VALUE:
            self.assertEqual(vars(getattr(errors, name)()), {})

    def test_they_are_told_apart(self):
        for name in WITHOUT_VALUE + ["BadLine"]:
            for other in WITHOUT_VALUE + ["BadLine"]:
                own, against = getattr(errors, name), getattr(errors, other)
                self.assertEqual(issubclass(own, against), name == other)


if __name__ == "__main__":
    unittest.main()
