import unittest

from foxyard.errors import AtAnEnd, BadYard, NoLane, NoYards, TwiceTold, YardError

REFUSALS = (NoYards, BadYard, TwiceTold, AtAnEnd, NoLane)


class TestErrors(unittest.TestCase):
    def test_a_yard_error_stands_right_under_value_error(self):
        self.assertEqual(YardError.__bases__, (ValueError,))

    def test_each_refusal_stands_right_under_yard_error(self):
        for refusal in REFUSALS:
            with self.subTest(refusal=refusal.__name__):
                self.assertEqual(refusal.__bases__, (YardError,))

    def test_the_names_are_as_told(self):
        names = [refusal.__name__ for refusal in (YardError,) + REFUSALS]
        self.assertEqual(names, ["YardError", "NoYards", "BadYard", "TwiceTold", "AtAnEnd", "NoLane"])

    def test_each_refusal_is_taken_by_its_own_name_and_by_its_bases(self):
        for refusal in REFUSALS:
            for taken in (refusal, YardError, ValueError):
                with self.subTest(refusal=refusal.__name__, taken=taken.__name__):
                    with self.assertRaises(taken):
                        raise refusal("some words")

    def test_no_refusal_is_another_one(self):
        for refusal in REFUSALS:
            for other in REFUSALS:
                if other is not refusal:
                    self.assertFalse(issubclass(refusal, other))


if __name__ == "__main__":
    unittest.main()
