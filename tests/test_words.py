"""Point 6, of it the words of the first scheme, with what it uses, rising."""

import unittest

from markscript.papers import words_of
from tests.helpers import STEP


class WordsTest(unittest.TestCase):

    def test_each_sort_that_names_a_word_tells_it(self):
        for word in "abcdefgh":
            self.assertEqual(words_of((("step", word, 1),)), [word])
        self.assertEqual(words_of((("seen", "c", STEP),)), ["a", "c"])
        self.assertEqual(words_of((("behind", "d", STEP),)), ["a", "d"])
        self.assertEqual(words_of((("end", "e", 2, STEP),)), ["a", "e"])

    def test_the_other_sorts_tell_what_is_within_them(self):
        for scheme in (("all", (STEP,)), ("best", (STEP,)), ("most", 0, STEP), ("half", STEP), ("carry", STEP)):
            self.assertEqual(words_of((scheme,)), ["a"])
        self.assertEqual(words_of((("use", 1), STEP)), ["a"])

    def test_words_rise_and_are_told_once(self):
        steps = tuple(("step", word, 1) for word in "hbfb")
        self.assertEqual(words_of((("all", steps),)), ["b", "f", "h"])
        deep = ("best", (("end", "h", 1, ("seen", "g", ("step", "c", 1))), ("behind", "b", ("step", "h", 2))))
        self.assertEqual(words_of((deep,)), ["b", "c", "g", "h"])

    def test_all_eight_words_can_be_told(self):
        seens = ("seen", "h", ("behind", "g", ("seen", "f", ("step", "e", 1))))
        steps = (seens,) + tuple(("step", word, 1) for word in "cba")
        self.assertEqual(words_of((("all", steps),)), list("abcefgh"))
        self.assertEqual(words_of((("end", "d", 1, ("use", 1)), ("all", steps))), list("abcdefgh"))

    def test_uses_of_uses_tell_theirs(self):
        paper = (("seen", "h", ("use", 1)), ("all", (("step", "d", 1), ("use", 3))), STEP, ("step", "b", 9))
        self.assertEqual(words_of(paper), ["b", "d", "h"])

    def test_schemes_that_the_first_does_not_use_tell_none(self):
        self.assertEqual(words_of((STEP, ("step", "b", 1), ("use", 3), ("step", "c", 1))), ["a"])
        self.assertEqual(words_of((("use", 2), ("step", "b", 1), ("step", "c", 1))), ["c"])

    def test_a_told_list_may_be_changed(self):
        paper = (("seen", "b", STEP),)
        told = words_of(paper)
        told.clear()
        self.assertEqual(words_of(paper), ["a", "b"])
        self.assertIsNot(words_of(paper), words_of(paper))
