import unittest

from leasewatch import errors

KINDS = ["BadTicks", "NoLease", "NoKey", "Held", "NoStart", "NoWatch"]


class ErrorClasses(unittest.TestCase):
    def test_lease_error_is_a_value_error(self):
        self.assertTrue(issubclass(errors.LeaseError, ValueError))
        self.assertIsNot(errors.LeaseError, ValueError)

    def test_each_kind_is_a_lease_error_of_its_own(self):
        for name in KINDS:
            with self.subTest(name=name):
                kind = getattr(errors, name)
                self.assertTrue(issubclass(kind, errors.LeaseError))
                self.assertIsNot(kind, errors.LeaseError)

    def test_no_kind_stands_under_another_one(self):
        for lower in KINDS:
            for upper in KINDS:
                if lower != upper:
                    with self.subTest(lower=lower, upper=upper):
                        self.assertFalse(issubclass(getattr(errors, lower), getattr(errors, upper)))

    def test_each_kind_is_defined_in_its_file_under_its_name(self):
        for name in ["LeaseError"] + KINDS:
            with self.subTest(name=name):
                kind = getattr(errors, name)
                self.assertEqual(kind.__module__, "leasewatch.errors")
                self.assertEqual(kind.__name__, name)

    def test_each_kind_is_raised_with_a_message_and_caught_as_any_refusal(self):
        for name in KINDS:
            with self.subTest(name=name):
                with self.assertRaises(errors.LeaseError) as caught:
                    raise getattr(errors, name)("a message")
                self.assertEqual(str(caught.exception), "a message")


if __name__ == "__main__":
    unittest.main()
