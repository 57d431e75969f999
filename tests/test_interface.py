"""The interface: names, files, classes and their values."""

import inspect
import unittest

from markscript import deciding, errors, heaps, machines, notes, papers, reading
from markscript.errors import BadCount, BadPaper, BadStep, BadText, BadWork, MarkError, NoWork
from markscript.heaps import Heap
from tests.helpers import PAPER, refusal

REFUSALS = (BadPaper, BadWork, BadStep, BadCount, NoWork, BadText)
FUNCTIONS = (
    (papers, "words_of", ["paper"]),
    (reading, "earned", ["paper", "work"]),
    (reading, "marked", ["paper", "work"]),
    (machines, "made", ["paper"]),
    (machines, "walked", ["machine", "work"]),
    (deciding, "parted", ["one", "other"]),
    (deciding, "span", ["paper", "work"]),
    (deciding, "earnable", ["paper"]),
    (notes, "written", ["paper"]),
    (notes, "written_work", ["work"]),
    (notes, "read", ["text"]),
    (notes, "read_work", ["text"]),
)
METHODS = (
    ("add", ["work"]),
    ("reread", ["number", "place", "step"]),
    ("change", ["number", "scheme"]),
    ("work", ["number"]),
    ("rows", ["number"]),
    ("sheet", []),
    ("back", []),
)


class ErrorsTest(unittest.TestCase):

    def test_each_refusal_is_a_mark_error_and_none_is_under_another(self):
        self.assertEqual(MarkError.__bases__, (ValueError,))
        for refusal in REFUSALS:
            self.assertEqual(refusal.__bases__, (MarkError,))

    def test_values_are_set_when_a_refusal_is_created(self):
        refused = BadPaper(2, (0, 1))
        self.assertEqual((refused.scheme, refused.place), (2, (0, 1)))
        self.assertEqual(BadWork(7).number, 7)
        self.assertEqual(BadText(3).place, 3)

    def test_values_are_kept_by_each_object_alone(self):
        one, other = BadWork(1), BadWork(2)
        self.assertEqual((one.number, other.number), (1, 2))
        self.assertFalse(hasattr(BadWork, "number"))

    def test_what_is_refused_is_one_of_them_and_none_of_the_others(self):
        heap = Heap(PAPER)
        calls = (
            (lambda: papers.words_of(()), BadPaper), (lambda: machines.made(()), BadPaper),
            (lambda: Heap(()), BadPaper),
            (lambda: deciding.parted(PAPER, ()), BadPaper), (lambda: notes.read("step a 0"), BadPaper),
            (lambda: heap.change(0, ()), BadPaper), (lambda: reading.earned(PAPER, ["ac"]), BadWork),
            (lambda: heap.add(["ac"]), BadWork), (lambda: notes.read_work("ac"), BadWork),
            (lambda: heap.reread(0, 1, "ar"), BadStep), (lambda: heap.reread(0, 0, "ac"), BadStep),
            (lambda: heap.change(1, PAPER[0]), BadCount), (lambda: heap.add(["ar"]), BadCount),
            (lambda: heap.rows(20), NoWork), (lambda: heap.work(-1), NoWork),
            (lambda: heap.reread(20, 0, "ar"), NoWork),
            (lambda: notes.read(""), BadText), (lambda: notes.read_work("a"), BadText),
        )
        for number in range(20):
            heap.add(["ar"])
        for call, due in calls:
            refused = refusal(call)
            self.assertEqual([kind for kind in REFUSALS if isinstance(refused, kind)], [due])
            self.assertIsInstance(refused, MarkError)
            self.assertIsInstance(refused, ValueError)

    def test_refusals_without_values_are_created_without_arguments(self):
        for refusal in (MarkError, BadStep, BadCount, NoWork):
            self.assertIsInstance(refusal(), MarkError)


class PlacesTest(unittest.TestCase):

    def test_classes_are_defined_in_errors(self):
        for refusal in (MarkError,) + REFUSALS:
            self.assertEqual(refusal.__module__, errors.__name__)

    def test_functions_are_defined_in_their_files_and_take_the_arguments_that_are_listed(self):
        for module, name, arguments in FUNCTIONS:
            function = getattr(module, name)
            self.assertEqual((function.__module__, function.__name__), (module.__name__, name))
            self.assertEqual(list(inspect.signature(function).parameters), arguments)

    def test_a_heap_is_defined_in_its_file_with_all_methods_in_its_body(self):
        self.assertEqual(Heap.__module__, heaps.__name__)
        self.assertEqual(list(inspect.signature(Heap).parameters), ["paper"])
        for name, arguments in METHODS:
            self.assertIn(name, vars(Heap))
            self.assertEqual(list(inspect.signature(getattr(Heap, name)).parameters), ["self"] + arguments)
