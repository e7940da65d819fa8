import unittest

from onereading import errors

NAMES = ["BadCode", "Full", "BadWord", "Twice", "NotThere", "NoNumber", "NoWait", "BadSign", "NoReading"]


class ErrorsTest(unittest.TestCase):

    def test_code_error_is_a_value_error(self):
        self.assertEqual(errors.CodeError.__bases__, (ValueError,))

    def test_each_refusal_stands_directly_under_code_error(self):
        for name in NAMES:
            with self.subTest(name):
                self.assertEqual(getattr(errors, name).__bases__, (errors.CodeError,))

    def test_the_refusals_are_unlike_classes_of_this_file(self):
        classes = [getattr(errors, name) for name in ["CodeError"] + NAMES]
        self.assertEqual(len(set(classes)), 10)
        for name, kind in zip(["CodeError"] + NAMES, classes):
            self.assertEqual((kind.__name__, kind.__module__), (name, "onereading.errors"))


if __name__ == "__main__":
    unittest.main()
