import unittest

from wordscales.errors import BadNote, NoMachine, NoSign, TooMany, Unlike, WeighError

REFUSALS = (NoMachine, NoSign, Unlike, TooMany, BadNote)


class ErrorClasses(unittest.TestCase):
    def test_any_refusal_stands_under_value_error(self):
        self.assertTrue(issubclass(WeighError, ValueError))

    def test_each_refusal_stands_under_weigh_error(self):
        for refusal in REFUSALS:
            with self.subTest(refusal=refusal.__name__):
                self.assertTrue(issubclass(refusal, WeighError))
                self.assertIsNot(refusal, WeighError)
                with self.assertRaises(WeighError):
                    raise refusal("told")

    def test_no_refusal_stands_under_another(self):
        for one in REFUSALS:
            for other in REFUSALS:
                if one.__name__ != other.__name__:
                    with self.subTest(one=one.__name__, other=other.__name__):
                        self.assertFalse(issubclass(one, other))


if __name__ == "__main__":
    unittest.main()
