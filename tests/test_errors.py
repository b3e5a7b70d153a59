"""The error classes of the interface."""

import unittest

from yardturn.errors import NoJob, NoOrder, Twice, YardError


class ErrorClasses(unittest.TestCase):
    def test_any_refusal_is_a_value_error(self):
        self.assertEqual(YardError.__bases__, (ValueError,))

    def test_each_refusal_stands_under_yard_error(self):
        for refusal in (Twice, NoJob, NoOrder):
            with self.subTest(refusal=refusal.__name__):
                self.assertEqual(refusal.__bases__, (YardError,))

    def test_names(self):
        names = [refusal.__name__ for refusal in (YardError, Twice, NoJob, NoOrder)]
        self.assertEqual(names, ["YardError", "Twice", "NoJob", "NoOrder"])

    def test_no_refusal_is_taken_for_another(self):
        refusals = (Twice, NoJob, NoOrder)
        for one in refusals:
            for other in refusals:
                with self.subTest(one=one.__name__, other=other.__name__):
                    self.assertEqual(issubclass(one, other), one is other)

    def test_raised_and_taken(self):
        for refusal in (YardError, Twice, NoJob, NoOrder):
            for above in (refusal, YardError, ValueError):
                with self.subTest(refusal=refusal.__name__, above=above.__name__):
                    with self.assertRaises(above) as taken:
                        raise refusal("words of its own")
                    self.assertEqual(str(taken.exception), "words of its own")


if __name__ == "__main__":
    unittest.main()
