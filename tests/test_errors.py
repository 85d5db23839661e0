import unittest

from quits import errors

REFUSALS = (
    "NoPart", "Ringed", "NoAnswer", "NoRule", "TooMuch", "NoLayer", "NoMember", "NoTerms", "NoDeal", "Closed", "Gone",
    "Settled", "Standing", "Out", "Bare", "Poor", "Unclosed",
)


class RefusalsTest(unittest.TestCase):
    def test_base_stands_right_under_value_error(self):
        self.assertEqual(errors.QuitsError.__bases__, (ValueError,))

    def test_each_stands_right_under_the_base(self):
        for name in REFUSALS:
            with self.subTest(name):
                self.assertEqual(getattr(errors, name).__bases__, (errors.QuitsError,))
                self.assertTrue(issubclass(getattr(errors, name), ValueError))

    def test_none_stands_under_another(self):
        for name in REFUSALS:
            for other in REFUSALS:
                if name != other:
                    with self.subTest(name, other=other):
                        self.assertFalse(issubclass(getattr(errors, name), getattr(errors, other)))

    def test_there_are_eighteen_classes(self):
        classes = [value for value in vars(errors).values() if isinstance(value, type)]
        self.assertEqual(sorted(made.__name__ for made in classes), sorted(REFUSALS + ("QuitsError",)))

    def test_each_is_raised_and_taken_by_name(self):
        for name in REFUSALS:
            with self.subTest(name):
                refusal = getattr(errors, name)
                self.assertEqual(refusal.__name__, name)
                with self.assertRaises(refusal):
                    raise refusal("words")


if __name__ == "__main__":
    unittest.main()
