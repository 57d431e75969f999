"""Point 1: nothing handed in is changed or kept, what is told may be changed, what is refused changes nothing."""

import unittest
from copy import deepcopy

from markscript.deciding import earnable, parted, span
from markscript.errors import BadPaper, BadWork
from markscript.machines import made, walked
from markscript.notes import read, written, written_work
from markscript.papers import words_of
from markscript.reading import earned, marked
from tests.helpers import refusal

PAPER = (
    ("best", (("end", "c", 4, ("use", 1)), ("half", ("carry", ("step", "b", 7))))),
    ("behind", "a", ("most", 3, ("all", (("step", "a", 2), ("seen", "d", ("step", "b", 6)))))),
)
WORK = ["dw", "ac", "ar", "br", "ar"]
ROWS = [(4, 2, (0, 0, 0, 0, 0, 0)), (3, 1, (0, 0, 0, 0, 0, 1, 0))]


def lists_in(told):
    """All lists in what is told, that itself among them."""
    found = [told] if isinstance(told, list) else []
    if isinstance(told, (list, tuple)):
        for part in told:
            found.extend(lists_in(part))
    return found


class HandedInTest(unittest.TestCase):

    def test_nothing_that_is_handed_in_is_changed(self):
        paper, work = deepcopy(PAPER), list(WORK)
        paper = (paper[0], ("behind", "a", ("step", "b", 6)))
        before = deepcopy(paper)
        words_of(paper)
        earned(paper, work)
        marked(paper, work)
        machine = made(paper)
        machine_before = deepcopy(machine)
        walked(machine, work)
        parted(paper, PAPER)
        span(paper, work)
        earnable(paper)
        written(paper)
        written_work(work)
        self.assertEqual((paper, work, machine), (before, WORK, machine_before))

    def test_a_work_may_be_changed_later(self):
        work = ["ar"]
        paper = (("step", "a", 3),)
        told = earned(paper, work)
        work[0] = "aw"
        work.append("ar")
        self.assertEqual(told, [(0, 3, ())])
        self.assertEqual(earned(paper, work), [(1, 3, ())])
        work.clear()
        self.assertEqual(earned(paper, work), [])
        self.assertEqual(marked(paper, work), 0)


class ToldTest(unittest.TestCase):

    def test_what_is_told_may_be_changed(self):
        for change in (list.clear, list.reverse, lambda rows: rows.append((0, 9, ())), lambda rows: rows.pop()):
            told = earned(PAPER, WORK)
            self.assertEqual(told, ROWS)
            change(told)
            self.assertEqual(earned(PAPER, WORK), ROWS)
            self.assertEqual(marked(PAPER, WORK), 3)

    def test_lists_within_what_is_told_may_be_changed(self):
        for ask in (
            lambda: made(PAPER), lambda: span(PAPER, []), lambda: span(PAPER, WORK), lambda: earnable(PAPER),
            lambda: parted(PAPER, PAPER[1:]), lambda: parted((("step", "a", 1),), PAPER), lambda: words_of(PAPER),
        ):
            due = deepcopy(ask())
            for change in (list.clear, list.reverse, lambda told: told.append("zz")):
                for within in lists_in(ask()):
                    change(within)
                    self.assertEqual(ask(), due)

    def test_no_list_is_told_twice_at_once(self):
        for told in (
            made(PAPER), span((("step", "a", 1),), ["ar"]), span((("most", 0, ("step", "a", 1)),), []),
            earnable((("all", (("step", "a", 1), ("step", "a", 2))),)), earnable(PAPER),
        ):
            lists = lists_in(told)
            self.assertEqual(len({id(within) for within in lists}), len(lists))

    def test_a_machine_that_is_told_may_be_changed_behind_a_walk(self):
        machine = made(PAPER)
        self.assertEqual(walked(machine, WORK), 3)
        machine[2][:] = [9] * len(machine[2])
        self.assertEqual(walked(machine, WORK), 9)
        self.assertEqual(walked(made(PAPER), WORK), 3)

    def test_a_paper_that_was_read_stands_by_itself(self):
        text = written(PAPER)
        self.assertEqual(read(text), PAPER)
        self.assertEqual(made(read(text)), made(PAPER))

    def test_an_empty_list_that_is_told_may_be_changed(self):
        for paper in (PAPER, (("step", "a", 1),), (("most", 0, ("step", "a", 1)),), (("seen", "h", ("step", "g", 1)),)):
            for work in ([], ["gr"]):
                told = earned(paper, work)
                self.assertEqual(told, [])
                told.append((0, 1, ()))
                self.assertEqual(earned(paper, work), [])

    def test_asked_again_the_same_is_told(self):
        for turn in range(3):
            self.assertEqual(words_of(PAPER), ["a", "b", "c", "d"])
            self.assertEqual(earned(PAPER, WORK), ROWS)
            self.assertEqual(marked(PAPER, WORK), 3)
            self.assertEqual(walked(made(PAPER), WORK), 3)
            self.assertEqual(span(PAPER, WORK), (3, [], 4, ["cr"]))
            self.assertEqual(parted(PAPER, PAPER), None)

    def test_papers_and_works_do_not_touch_each_other(self):
        other = (("step", "a", 9),)
        self.assertEqual(earned(other, WORK), [(2, 9, ())])
        self.assertEqual(earned(PAPER, WORK), ROWS)
        self.assertEqual(earned(PAPER, ["br"]), [(0, 3, (1, 0, 0))])
        self.assertEqual(earned(PAPER, WORK), ROWS)


class RefusedTest(unittest.TestCase):

    def test_what_is_refused_changes_nothing(self):
        bad_work = list(WORK) + ["zz"]
        bad_paper = ([*PAPER[0]], PAPER[1])
        for turn in range(2):
            self.assertEqual(refusal(lambda: earned(PAPER, bad_work)).number, 5)
            refused = refusal(lambda: marked(bad_paper, WORK))
            self.assertEqual((refused.scheme, refused.place), (0, ()))
            self.assertEqual(earned(PAPER, WORK), ROWS)
        self.assertEqual(bad_work, WORK + ["zz"])
        self.assertEqual(bad_paper, ([*PAPER[0]], PAPER[1]))

    def test_the_paper_is_refused_ahead_of_the_work(self):
        for ask in (earned, marked):
            self.assertIs(refusal(lambda: ask((), ["zz"])).__class__, BadPaper)
            self.assertIs(refusal(lambda: ask(None, None)).__class__, BadPaper)
            self.assertIs(refusal(lambda: ask(PAPER, ["zz"])).__class__, BadWork)

    def test_a_paper_that_is_refused_only_for_its_size_is_ahead_too(self):
        eight = ("all", (("all", (("step", "a", 1),) * 4),) * 2)
        self.assertIs(refusal(lambda: earned((eight,), ["zz"])).__class__, BadPaper)

    def test_whole_numbers_alone(self):
        for truth in (True, False):
            for scheme in (("step", "a", truth), ("most", truth, ("step", "a", 1)), ("use", truth)):
                refused = refusal(lambda: words_of((scheme, ("step", "a", 1))))
                self.assertEqual((refused.scheme, refused.place), (0, ()))
