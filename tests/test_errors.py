import unittest

from learnyard.errors import BadNumber, BadRules, BadState, BadText, LearnError, Unlike

KINDS = (BadRules, BadState, Unlike, BadNumber, BadText)


class ErrorsTest(unittest.TestCase):
    def test_any_refusal_is_a_value_error(self):
        self.assertTrue(issubclass(LearnError, ValueError))

    def test_each_stands_below_learn_error(self):
        for kind in KINDS:
            self.assertTrue(issubclass(kind, LearnError), kind)
            self.assertNotEqual(kind, LearnError)

    def test_none_stands_below_another(self):
        for kind in KINDS:
            for other in KINDS:
                if kind is not other:
                    self.assertFalse(issubclass(kind, other), (kind, other))


if __name__ == "__main__":
    unittest.main()
