import unittest

from tacet import errors, machines
from tacet.errors import BadNames, BadText, Stopped, TacetError, TooLarge

MACHINE = (((1, 1, -1), (1, 1, -1)),)


class Errors(unittest.TestCase):
    def test_the_base_class_is_a_value_error(self):
        self.assertEqual(TacetError.__bases__, (ValueError,))

    def test_each_error_derives_from_the_base_class_alone(self):
        for error in (TooLarge, Stopped, BadText, BadNames):
            with self.subTest(error=error):
                self.assertEqual(error.__bases__, (TacetError,))

    def test_all_are_five_different_classes_of_their_file(self):
        names = ["TacetError", "TooLarge", "Stopped", "BadText", "BadNames"]
        classes = [getattr(errors, name) for name in names]
        self.assertEqual([one.__name__ for one in classes], names)
        self.assertEqual({one.__module__ for one in classes}, {"tacet.errors"})
        self.assertEqual(len(set(classes)), 5)

    def test_a_raised_error_has_no_fields(self):
        for action in (lambda: machines.parse(""), lambda: machines.renamed(MACHINE, [], [])):
            with self.assertRaises(TacetError) as caught:
                action()
            self.assertEqual(vars(caught.exception), {})


if __name__ == "__main__":
    unittest.main()
