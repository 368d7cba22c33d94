import unittest

from everyworth import errors

PLAIN = [
    "InvalidArgument", "UnknownTable", "UnknownFact", "DuplicateFact", "WrongState", "NoStar",
    "TooLarge", "UnknownView", "DuplicateView", "NothingToUndo", "BadText",
]
CODED = ["AxiomError", "QueryError"]


class ErrorsTest(unittest.TestCase):
    def test_base_derives_from_value_error(self):
        self.assertEqual(errors.WorthError.__bases__, (ValueError,))

    def test_each_derives_directly_from_the_base(self):
        for name in PLAIN + CODED:
            self.assertEqual(getattr(errors, name).__bases__, (errors.WorthError,), name)

    def test_all_are_different_classes_of_this_file(self):
        classes = [getattr(errors, name) for name in PLAIN + CODED]
        self.assertEqual(len(set(classes)), 13)
        for made in classes:
            self.assertEqual(made.__module__, "everyworth.errors")

    def test_plain_errors_are_caught_by_their_bases(self):
        for name in PLAIN:
            made = getattr(errors, name)
            for base in (made, errors.WorthError, ValueError):
                with self.assertRaises(base):
                    raise made("words")

    def test_codes(self):
        for name in CODED:
            for code in ("size", "form", "plus-order", ""):
                error = getattr(errors, name)(code)
                self.assertEqual(error.code, code)
                with self.assertRaises(errors.WorthError) as caught:
                    raise error
                self.assertEqual(caught.exception.code, code)

    def test_codes_belong_to_their_errors(self):
        first, second = errors.AxiomError("one"), errors.AxiomError("zero")
        self.assertEqual((first.code, second.code), ("one", "zero"))
        first, second = errors.QueryError("deep"), errors.QueryError("form")
        self.assertEqual((first.code, second.code), ("deep", "form"))
