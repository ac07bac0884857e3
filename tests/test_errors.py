import unittest

from heightrings import errors

WITH_FIELDS = {"NoTable": "at", "NoWeb": "at", "NoText": "line"}
NAMES = ["NoTable", "NoPoint", "NoGate", "NoRing", "TooSteep", "NoWeb", "NoBack", "NoText", "NoRow", "NoDeed"]


def made(name):
    refusal = getattr(errors, name)
    return refusal(3) if name in WITH_FIELDS else refusal("words")


class ErrorsTest(unittest.TestCase):
    def test_base_is_a_value_error(self):
        self.assertEqual(errors.HeightError.__bases__, (ValueError,))

    def test_each_stands_under_the_base(self):
        for name in NAMES:
            with self.subTest(name=name):
                self.assertIsInstance(made(name), errors.HeightError)
                self.assertIsInstance(made(name), ValueError)

    def test_none_stands_under_another_one(self):
        for name in NAMES:
            for other in NAMES:
                with self.subTest(name=name, other=other):
                    self.assertEqual(isinstance(made(name), getattr(errors, other)), name == other)

    def test_fields(self):
        for name, field in WITH_FIELDS.items():
            with self.subTest(name=name):
                self.assertEqual(getattr(made(name), field), 3)

    def test_field_may_be_a_tuple(self):
        self.assertEqual(errors.NoWeb((0, 1, 2, 3)).at, (0, 1, 2, 3))

    def test_each_can_be_raised_and_taken_by_the_base(self):
        for name in NAMES:
            with self.subTest(name=name), self.assertRaises(errors.HeightError):
                raise made(name)


if __name__ == "__main__":
    unittest.main()
