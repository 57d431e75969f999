"""The interface: names, files, classes and their values."""

import inspect
import unittest

from markscript import errors, papers, reading
from markscript.errors import BadCount, BadPaper, BadStep, BadText, BadWork, MarkError, NoWork

REFUSALS = (BadPaper, BadWork, BadStep, BadCount, NoWork, BadText)


class ErrorsTest(unittest.TestCase):

    def test_each_refusal_is_a_mark_error_and_none_is_under_another(self):
        self.assertEqual(MarkError.__bases__, (ValueError,))
        for refusal in REFUSALS:
            self.assertEqual(refusal.__bases__, (MarkError,))

    def test_values_are_set_when_a_refusal_is_created(self):
        refused = BadPaper(2, (0, 1))
        self.assertEqual((refused.scheme, refused.place), (2, (0, 1)))
        self.assertEqual(BadWork(7).number, 7)
        self.assertEqual(BadText(3).place, 3)

    def test_values_are_kept_by_each_object_alone(self):
        one, other = BadWork(1), BadWork(2)
        self.assertEqual((one.number, other.number), (1, 2))
        self.assertFalse(hasattr(BadWork, "number"))

    def test_refusals_without_values_are_created_without_arguments(self):
        for refusal in (MarkError, BadStep, BadCount, NoWork):
            self.assertIsInstance(refusal(), MarkError)


class PlacesTest(unittest.TestCase):

    def test_classes_are_defined_in_errors(self):
        for refusal in (MarkError,) + REFUSALS:
            self.assertEqual(refusal.__module__, errors.__name__)

    def test_functions_are_defined_in_their_files(self):
        self.assertEqual(papers.words_of.__module__, papers.__name__)
        self.assertEqual(reading.earned.__module__, reading.__name__)
        self.assertEqual(reading.marked.__module__, reading.__name__)

    def test_functions_take_the_arguments_that_are_listed(self):
        self.assertEqual(list(inspect.signature(papers.words_of).parameters), ["paper"])
        self.assertEqual(list(inspect.signature(reading.earned).parameters), ["paper", "work"])
        self.assertEqual(list(inspect.signature(reading.marked).parameters), ["paper", "work"])
