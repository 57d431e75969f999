"""Point 1: nothing handed in is changed or kept, what is told may be changed, what is refused changes nothing."""

import unittest
from copy import deepcopy

from markscript.errors import BadPaper, BadWork
from markscript.papers import words_of
from markscript.reading import earned, marked
from tests.helpers import refusal

PAPER = (
    ("best", (("end", "c", 4, ("use", 1)), ("half", ("carry", ("step", "b", 7))))),
    ("behind", "a", ("most", 3, ("all", (("step", "a", 2), ("seen", "d", ("step", "b", 6)))))),
)
WORK = ["dw", "ac", "ar", "br", "ar"]
ROWS = [(4, 2, (0, 0, 0, 0, 0, 0)), (3, 1, (0, 0, 0, 0, 0, 1, 0))]


class HandedInTest(unittest.TestCase):

    def test_nothing_that_is_handed_in_is_changed(self):
        paper, work = deepcopy(PAPER), list(WORK)
        paper = (paper[0], ("behind", "a", ("step", "b", 6)))
        before = deepcopy(paper)
        words_of(paper)
        earned(paper, work)
        marked(paper, work)
        self.assertEqual((paper, work), (before, WORK))

    def test_a_work_may_be_changed_later(self):
        work = ["ar"]
        paper = (("step", "a", 3),)
        told = earned(paper, work)
        work[0] = "aw"
        work.append("ar")
        self.assertEqual(told, [(0, 3, ())])
        self.assertEqual(earned(paper, work), [(1, 3, ())])
        work.clear()
        self.assertEqual(earned(paper, work), [])
        self.assertEqual(marked(paper, work), 0)


class ToldTest(unittest.TestCase):

    def test_what_is_told_may_be_changed(self):
        for change in (list.clear, list.reverse, lambda rows: rows.append((0, 9, ())), lambda rows: rows.pop()):
            told = earned(PAPER, WORK)
            self.assertEqual(told, ROWS)
            change(told)
            self.assertEqual(earned(PAPER, WORK), ROWS)
            self.assertEqual(marked(PAPER, WORK), 3)

    def test_an_empty_list_that_is_told_may_be_changed(self):
        for paper in (PAPER, (("step", "a", 1),), (("most", 0, ("step", "a", 1)),), (("seen", "h", ("step", "g", 1)),)):
            for work in ([], ["gr"]):
                told = earned(paper, work)
                self.assertEqual(told, [])
                told.append((0, 1, ()))
                self.assertEqual(earned(paper, work), [])

    def test_asked_again_the_same_is_told(self):
        for turn in range(3):
            self.assertEqual(words_of(PAPER), ["a", "b", "c", "d"])
            self.assertEqual(earned(PAPER, WORK), ROWS)
            self.assertEqual(marked(PAPER, WORK), 3)

    def test_papers_and_works_do_not_touch_each_other(self):
        other = (("step", "a", 9),)
        self.assertEqual(earned(other, WORK), [(2, 9, ())])
        self.assertEqual(earned(PAPER, WORK), ROWS)
        self.assertEqual(earned(PAPER, ["br"]), [(0, 3, (1, 0, 0))])
        self.assertEqual(earned(PAPER, WORK), ROWS)


class RefusedTest(unittest.TestCase):

    def test_what_is_refused_changes_nothing(self):
        bad_work = list(WORK) + ["zz"]
        bad_paper = ([*PAPER[0]], PAPER[1])
        for turn in range(2):
            self.assertEqual(refusal(lambda: earned(PAPER, bad_work)).number, 5)
            refused = refusal(lambda: marked(bad_paper, WORK))
            self.assertEqual((refused.scheme, refused.place), (0, ()))
            self.assertEqual(earned(PAPER, WORK), ROWS)
        self.assertEqual(bad_work, WORK + ["zz"])
        self.assertEqual(bad_paper, ([*PAPER[0]], PAPER[1]))

    def test_the_paper_is_refused_ahead_of_the_work(self):
        for ask in (earned, marked):
            self.assertIs(refusal(lambda: ask((), ["zz"])).__class__, BadPaper)
            self.assertIs(refusal(lambda: ask(None, None)).__class__, BadPaper)
            self.assertIs(refusal(lambda: ask(PAPER, ["zz"])).__class__, BadWork)

    def test_a_paper_that_is_refused_only_for_its_size_is_ahead_too(self):
        eight = ("all", (("all", (("step", "a", 1),) * 4),) * 2)
        self.assertIs(refusal(lambda: earned((eight,), ["zz"])).__class__, BadPaper)

    def test_whole_numbers_alone(self):
        for truth in (True, False):
            for scheme in (("step", "a", truth), ("most", truth, ("step", "a", 1)), ("use", truth)):
                refused = refusal(lambda: words_of((scheme, ("step", "a", 1))))
                self.assertEqual((refused.scheme, refused.place), (0, ()))
