"""Point 3: each refusal is a class of its own straight under WireError."""

import unittest

from barewire import errors

NAMES = ("NoWord", "NoLevels", "NoSpeech", "NoLine", "NoText", "NoOrder", "NoBeat")


class Refusals(unittest.TestCase):
    def test_any_refusal_is_a_value_error(self):
        self.assertEqual(errors.WireError.__bases__, (ValueError,))

    def test_each_stands_straight_under_wire_error(self):
        for name in NAMES:
            with self.subTest(name):
                self.assertEqual(getattr(errors, name).__bases__, (errors.WireError,))

    def test_none_stands_under_another_one(self):
        classes = [getattr(errors, name) for name in NAMES]
        for one in classes:
            self.assertEqual([other for other in classes if issubclass(one, other)], [one])

    def test_each_is_caught_by_its_own_name_and_as_a_wire_error(self):
        for name in NAMES:
            for kind in (getattr(errors, name), errors.WireError, ValueError):
                with self.subTest(name, kind=kind), self.assertRaises(kind):
                    raise getattr(errors, name)("why")


if __name__ == "__main__":
    unittest.main()
