"""Points 8 and 9: heaps of works, what each deed tells and refuses, and how it is taken back."""

import unittest
from copy import deepcopy

from markscript.errors import BadCount, BadPaper, BadStep, BadWork, NoWork
from markscript.heaps import Heap
from markscript.reading import earned, marked
from tests.helpers import OTHERS, assert_bad_paper, assert_bad_work, is_work, refusal
from tests.samples import A, B, C, LARGE, PAPERS

# What may be handed in for a number, but is none of a heap's works, a work's steps or a paper's schemes.
NO_NUMBERS = (-1, -2, 20, 99, True, False, None, "0", "", (), (0,), [], [0])


def heap_of(paper, *works):
    """A heap of a paper with these works."""
    heap = Heap(paper)
    for work in works:
        heap.add(work)
    return heap


def whole(heap, many):
    """All that so many works of a heap tell."""
    return (heap.sheet(), [(heap.work(number), heap.rows(number)) for number in range(many)])


class HeapCase(unittest.TestCase):

    def assert_refused(self, heap, many, call, kind):
        """A call is refused, changes nothing, and the refusal is told."""
        before = whole(heap, many)
        refused = refusal(call)
        self.assertIs(refused.__class__, kind)
        self.assertEqual(whole(heap, many), before)
        return refused

    def assert_holds(self, heap, paper, works):
        """A heap's works are these, and are marked by this paper."""
        self.assertEqual(heap.sheet(), [marked(paper, work) for work in works])
        for number, work in enumerate(works):
            self.assertEqual(heap.work(number), work)
            self.assertEqual(heap.rows(number), earned(paper, work))
        self.assertIs(refusal(lambda: heap.work(len(works))).__class__, NoWork)


class MadeTest(HeapCase):

    def test_a_new_heap_is_empty(self):
        heap = Heap((A,))
        self.assertEqual(heap.sheet(), [])
        self.assertIs(heap.back(), False)
        self.assert_holds(heap, (A,), [])

    def test_a_paper_that_can_not_be_is_refused(self):
        assert_bad_paper(self, (), 0, ())
        assert_bad_paper(self, (A, ("use", 1)), 1, ())


class AddTest(HeapCase):

    def test_numbers_are_told_in_turn(self):
        heap = Heap((A,))
        works = [["ar"], [], ["br"], ["aw", "ar"], ["ar"]]
        for number, work in enumerate(works):
            told = heap.add(work)
            self.assertEqual((told, told.__class__), (number, int))
        self.assert_holds(heap, (A,), works)
        self.assertEqual(heap.sheet(), [3, 0, 0, 3, 3])
        self.assertEqual(heap.rows(3), [(1, 3, ())])

    def test_a_number_is_told_again_when_its_work_is_taken_back(self):
        heap = heap_of((A,), ["ar"], ["br"])
        self.assertTrue(heap.back())
        self.assertEqual(heap.add(["aw"]), 1)
        self.assert_holds(heap, (A,), [["ar"], ["aw"]])

    def test_a_work_that_can_not_be_is_refused(self):
        assert_bad_work(self, ["ac"], 0)
        assert_bad_work(self, ["ar", "zz"], 1)
        assert_bad_work(self, ["ar"] * 13, 12)
        heap = heap_of((A,), ["ar"])
        refused = self.assert_refused(heap, 1, lambda: heap.add(["ar", "br", "cc"]), BadWork)
        self.assertEqual(refused.number, 2)

    def test_twenty_works_and_no_more(self):
        heap = Heap((A,))
        for number in range(20):
            self.assertEqual(heap.add(["ar"] * (number % 13)), number)
        self.assert_refused(heap, 20, lambda: heap.add(["ar"]), BadCount)
        self.assert_refused(heap, 20, lambda: heap.add([]), BadCount)
        self.assertEqual(len(heap.sheet()), 20)

    def test_a_bad_work_is_ahead_of_a_full_heap(self):
        heap = heap_of((A,), *[["ar"]] * 20)
        self.assertEqual(self.assert_refused(heap, 20, lambda: heap.add(["ar", "ac"]), BadWork).number, 1)
        self.assert_refused(heap, 20, lambda: heap.add(None), BadWork)

    def test_a_place_is_free_again_when_a_work_is_taken_back(self):
        heap = heap_of((A,), *[["ar"]] * 20)
        self.assertTrue(heap.back())
        self.assertEqual(heap.add(["br"]), 19)
        self.assert_refused(heap, 20, lambda: heap.add(["br"]), BadCount)
        self.assertEqual(heap.sheet(), [3] * 19 + [0])


class RereadTest(HeapCase):

    def test_what_is_earned_otherwise_is_told(self):
        heap = heap_of((("all", (A, B)),), ["ar", "br", "ar"])
        self.assertEqual(heap.reread(0, 0, "aw"), [((0,), (0, 3), (2, 3))])
        self.assertEqual(heap.reread(0, 1, "bw"), [((1,), (1, 5), None)])
        self.assertEqual(heap.reread(0, 0, "br"), [((1,), None, (0, 5))])
        self.assert_holds(heap, (("all", (A, B)),), [["br", "bw", "ar"]])

    def test_places_rise(self):
        heap = heap_of((("all", (C, B, ("half", A), ("end", "c", 4, B))),), ["br", "ar", "cr"])
        told = heap.reread(0, 2, "aw")
        self.assertEqual(told, [((0,), (2, 2), None), ((3,), (2, 4), None), ((3, 0), None, (0, 5))])
        self.assertEqual(heap.reread(0, 0, "cr"), [
            ((0,), None, (0, 2)), ((1,), (0, 5), None), ((3, 0), (0, 5), None),
        ])

    def test_kinds_of_what_is_told(self):
        heap = heap_of((("best", (A, B)),), ["ar"])
        told = heap.reread(0, 0, "br")
        self.assertEqual(told, [((0,), (0, 3), None), ((1,), None, (0, 5))])
        self.assertIs(told.__class__, list)
        self.assertEqual([part.__class__ for part in told[0]], [tuple, tuple, None.__class__])
        self.assertEqual([part.__class__ for part in told[1][2]], [int, int])

    def test_a_step_told_as_it_was_tells_nothing(self):
        heap = heap_of((A,), ["aw", "ar"])
        self.assertEqual(heap.reread(0, 1, "ar"), [])
        self.assertEqual(heap.reread(0, 0, "aw"), [])
        self.assert_holds(heap, (A,), [["aw", "ar"]])
        self.assertEqual([heap.back() for turn in range(4)], [True, True, True, False])

    def test_a_step_that_earns_nothing_tells_nothing(self):
        heap = heap_of((A,), ["ar", "br", "ar"])
        self.assertEqual(heap.reread(0, 1, "hw"), [])
        self.assertEqual(heap.reread(0, 2, "ac"), [])
        self.assertEqual(heap.work(0), ["ar", "hw", "ac"])

    def test_rows_far_off_may_change(self):
        paper = (("all", (("seen", "h", A), ("behind", "b", ("step", "c", 1)), ("end", "d", 9, ("carry", C)))),)
        heap = heap_of(paper, ["ar", "br", "cr", "fw", "cr", "br", "gr", "er"], ["ar"])
        self.assertEqual(heap.reread(0, 6, "hw"), [((0, 0), None, (0, 3))])
        self.assertEqual(heap.reread(0, 7, "dr"), [((2,), None, (7, 9)), ((2, 0, 0), (2, 2), None)])
        self.assertEqual(heap.reread(0, 1, "bw"), [((1, 0), (2, 1), None)])
        self.assertEqual(heap.reread(0, 2, "br"), [((1, 0), None, (4, 1))])
        self.assertEqual(heap.rows(1), earned(paper, ["ar"]))

    def test_another_best_may_be_earned(self):
        heap = heap_of((("best", (("all", (A, C)), B)),), ["ar", "cr", "br"])
        self.assertEqual(heap.reread(0, 2, "bw"), [])
        self.assertTrue(heap.back())
        told = heap.reread(0, 1, "cw")
        self.assertEqual(told, [((0, 0), (0, 3), None), ((0, 1), (1, 2), None), ((1,), None, (2, 5))])

    def test_other_points_of_the_same_step_are_told(self):
        heap = heap_of((("most", 4, ("all", (A, B))),), ["aw", "br"])
        self.assertEqual(heap.reread(0, 0, "ar"), [((0, 0), None, (0, 3)), ((0, 1), (1, 4), (1, 1))])

    def test_what_is_carried_on_may_shift(self):
        heap = heap_of((("carry", A),), ["bw", "ac", "ar"])
        self.assertEqual(heap.reread(0, 1, "aw"), [((0,), (1, 3), (2, 3))])
        self.assertEqual(heap.reread(0, 2, "ac"), [])
        self.assertEqual(heap.reread(0, 0, "br"), [])
        self.assertEqual(heap.reread(0, 0, "ar"), [((0,), (2, 3), (0, 3))])

    def test_a_wrong_step_that_is_carried_on_can_not_be_right(self):
        heap = heap_of((A,), ["bw", "ac", "aw", "ac"])
        self.assert_refused(heap, 1, lambda: heap.reread(0, 0, "br"), BadStep)
        self.assert_refused(heap, 1, lambda: heap.reread(0, 0, "bc"), BadStep)
        self.assertEqual(heap.reread(0, 1, "ar"), [((), None, (1, 3))])
        self.assertEqual(heap.reread(0, 0, "br"), [])
        self.assert_refused(heap, 1, lambda: heap.reread(0, 2, "ar"), BadStep)
        self.assert_refused(heap, 1, lambda: heap.reread(0, 1, "ac"), BadStep)
        self.assertEqual(heap.reread(0, 0, "hw"), [])
        self.assertEqual(heap.reread(0, 1, "ac"), [((), (1, 3), None)])
        self.assert_holds(heap, (A,), [["hw", "ac", "aw", "ac"]])

    def test_no_such_work_is_refused(self):
        heap = heap_of((A,), ["ar"], ["br"])
        for number in NO_NUMBERS + (2, 3):
            self.assert_refused(heap, 2, lambda: heap.reread(number, 0, "ar"), NoWork)
        self.assert_refused(Heap((A,)), 0, lambda: Heap((A,)).reread(0, 0, "ar"), NoWork)

    def test_no_such_place_is_refused(self):
        heap = heap_of((A,), ["ar", "br", "cr"], [])
        for place in NO_NUMBERS + (3, 4, 12):
            self.assert_refused(heap, 2, lambda: heap.reread(0, place, "ar"), BadStep)
        self.assert_refused(heap, 2, lambda: heap.reread(1, 0, "ar"), BadStep)

    def test_what_is_no_step_is_refused(self):
        heap = heap_of((A,), ["aw", "br"])
        for step in OTHERS + ("a", "r", "ra", "ir", "ax", "arr", "ar ", ("a", "r"), ["ar"]):
            self.assert_refused(heap, 1, lambda: heap.reread(0, 1, step), BadStep)

    def test_a_step_that_makes_no_work_is_refused(self):
        heap = heap_of((A,), ["ar", "br"])
        for place in (0, 1):
            self.assert_refused(heap, 1, lambda: heap.reread(0, place, "ac"), BadStep)

    def test_no_work_is_ahead_of_a_bad_step(self):
        heap = heap_of((A,), ["ar"])
        for place, step in ((5, "ar"), (0, "zz"), (None, None), (0, "ac")):
            self.assert_refused(heap, 1, lambda: heap.reread(1, place, step), NoWork)
            self.assertIs(refusal(lambda: heap.reread(0, place, step)).__class__, BadStep)

    def test_twelve_steps_can_be_reread(self):
        work = ["br"] * 11 + ["aw"]
        heap = heap_of((A,), work)
        self.assertEqual(heap.reread(0, 11, "ar"), [((), None, (11, 3))])
        self.assert_refused(heap, 1, lambda: heap.reread(0, 12, "ar"), BadStep)
        self.assertEqual(heap.work(0), ["br"] * 11 + ["ar"])


class ChangeTest(HeapCase):
    PAPER = (("all", (("use", 1), C)), A, B)
    WORKS = (["ar"], ["br"], ["ar", "br", "cr"], [])

    def test_works_that_earn_other_rows_are_told(self):
        heap = heap_of(self.PAPER, *self.WORKS)
        self.assertEqual(heap.change(1, B), [0, 1, 2])
        self.assert_holds(heap, (self.PAPER[0], B, B), list(self.WORKS))
        self.assertEqual(heap.change(0, B), [1, 2])
        self.assert_holds(heap, (B, B, B), list(self.WORKS))
        self.assertEqual(heap.change(0, ("seen", "c", B)), [1, 2])
        self.assertEqual(heap.sheet(), [0, 0, 5, 0])

    def test_kinds_of_what_is_told(self):
        heap = heap_of(self.PAPER, *self.WORKS)
        told = heap.change(1, B)
        self.assertEqual([told.__class__] + [number.__class__ for number in told], [list, int, int, int])
        self.assertIs(heap.change(1, B).__class__, list)

    def test_a_scheme_that_nobody_uses(self):
        heap = heap_of(self.PAPER, *self.WORKS)
        self.assertEqual(heap.change(2, ("end", "a", 9, C)), [])
        self.assert_holds(heap, self.PAPER, list(self.WORKS))
        # It is told otherwise all the same: as soon as it is used it earns.
        self.assertEqual(heap.change(0, ("use", 2)), [0, 2])
        self.assert_holds(heap, (("use", 2), A, ("end", "a", 9, C)), list(self.WORKS))

    def test_a_scheme_told_as_it_is(self):
        heap = heap_of(self.PAPER, *self.WORKS)
        for number, scheme in enumerate(self.PAPER):
            self.assertEqual(heap.change(number, scheme), [])
        self.assert_holds(heap, self.PAPER, list(self.WORKS))
        self.assertEqual([heap.back() for turn in range(8)], [True] * 7 + [False])

    def test_other_rows_with_the_same_points_are_told(self):
        heap = heap_of((A,), ["ar"], ["br"], ["ar", "ar"])
        self.assertEqual(heap.change(0, ("all", (A,))), [0, 2])
        self.assertEqual(heap.sheet(), [3, 0, 3])
        self.assertEqual(heap.change(0, ("all", (("step", "a", 1), ("step", "a", 2)))), [0, 2])

    def test_other_schemes_with_the_same_rows_are_not_told(self):
        heap = heap_of((("most", 3, A),), ["ar"], ["br"], ["ar", "ar"])
        self.assertEqual(heap.change(0, ("most", 3, ("step", "a", 7))), [])
        self.assertEqual(heap.change(0, ("all", (A,))), [])
        self.assertEqual(heap.change(0, ("best", (A, B))), [1])

    def test_a_use_of_uses(self):
        heap = heap_of((("use", 1), ("half", ("use", 2)), A), ["ar"], ["br"])
        self.assertEqual(heap.rows(0), [(0, 1, (0, 0, 0))])
        self.assertEqual(heap.change(2, ("best", (A, B))), [0, 1])
        self.assertEqual(heap.rows(1), [(0, 2, (0, 0, 0, 1))])

    def test_without_works(self):
        heap = Heap(self.PAPER)
        self.assertEqual(heap.change(0, B), [])
        self.assertEqual(heap.add(["br"]), 0)
        self.assertEqual(heap.rows(0), [(0, 5, ())])

    def test_later_works_and_rereads_go_by_the_changed_paper(self):
        heap = heap_of((A,), ["ar", "br"])
        self.assertEqual(heap.change(0, B), [0])
        self.assertEqual(heap.reread(0, 1, "bw"), [((), (1, 5), None)])
        self.assertEqual(heap.reread(0, 0, "aw"), [])
        self.assertEqual(heap.add(["ar", "br"]), 1)
        self.assert_holds(heap, (B,), [["aw", "bw"], ["ar", "br"]])

    def test_no_such_scheme_is_refused(self):
        heap = heap_of(self.PAPER, *self.WORKS)
        for number in NO_NUMBERS + (3, 4, 5):
            for scheme in (A, None, ("use", 0)):
                self.assert_refused(heap, 4, lambda: heap.change(number, scheme), BadCount)

    def test_what_makes_no_paper_is_refused_as_the_paper_would_be(self):
        heap = heap_of(self.PAPER, *self.WORKS)
        four = ("all", (A, A, A, A))
        for number, scheme, told in (
            (0, None, (0, ())), (1, ("half", None), (1, (0,))), (2, ("all", (A, ("step", "i", 1))), (2, (1,))),
            (2, ("use", 2), (2, ())), (1, ("use", 1), (1, ())), (0, ("use", 3), (0, ())), (0, ("use", True), (0, ())),
            (0, ("half", ("half", ("half", ("half", ("half", A))))), (0, (0, 0, 0, 0, 0))),
            (0, ("all", (four, four)), (3, ())), (1, ("all", (four, ("all", (A, A, A)))), (3, ())),
            (1, ("seen", "a", ("seen", "b", ("behind", "a", ("seen", "d", A)))), (3, ())),
            (0, [*A], (0, ())), (0, (), (0, ())),
        ):
            refused = self.assert_refused(heap, 4, lambda: heap.change(number, scheme), BadPaper)
            self.assertEqual((refused.scheme, refused.place), told, scheme)
        # Seven steps that nobody uses make a paper.
        self.assertEqual(heap.change(2, ("all", (four, four))), [])
        refused = self.assert_refused(heap, 4, lambda: heap.change(0, ("use", 2)), BadPaper)
        self.assertEqual((refused.scheme, refused.place), (3, ()))


class BackTest(HeapCase):

    def test_each_deed_is_taken_back_the_last_first(self):
        paper = (("all", (A, ("use", 1))), B)
        heap = Heap(paper)
        deeds = (
            lambda: heap.add(["ar", "bw"]), lambda: heap.add(["br"]), lambda: heap.reread(0, 1, "br"),
            lambda: heap.change(1, C), lambda: heap.add(["cr"]), lambda: heap.reread(2, 0, "ar"),
            lambda: heap.change(0, B), lambda: heap.reread(0, 0, "ar"), lambda: heap.change(1, C),
            lambda: heap.reread(1, 0, "bw"),
        )
        many = (0, 1, 2, 2, 2, 3, 3, 3, 3, 3)
        ahead = []
        for deed, works in zip(deeds, many):
            ahead.append(whole(heap, works))
            deed()
        for works, before in zip(many[::-1], ahead[::-1]):
            self.assertIs(heap.back(), True)
            self.assertEqual(whole(heap, works), before)
            self.assertIs(refusal(lambda: heap.work(works)).__class__, NoWork)
        for turn in range(3):
            self.assertIs(heap.back(), False)
        self.assert_holds(heap, paper, [])

    def test_a_changed_paper_is_taken_back_for_later_works_too(self):
        heap = heap_of((A,), ["ar"])
        heap.change(0, B)
        self.assertTrue(heap.back())
        heap.add(["br", "ar"])
        self.assert_holds(heap, (A,), [["ar"], ["br", "ar"]])

    def test_what_was_taken_back_may_be_done_again(self):
        heap = heap_of((A,), ["ar"])
        for turn in range(3):
            self.assertEqual(heap.reread(0, 0, "aw"), [((), (0, 3), None)])
            self.assertEqual(heap.change(0, ("carry", A)), [])
            self.assertTrue(heap.back())
            self.assertTrue(heap.back())
        self.assert_holds(heap, (A,), [["ar"]])
        self.assertEqual([heap.back(), heap.back()], [True, False])

    def test_a_back_is_no_deed(self):
        heap = heap_of((A,), ["ar"], ["br"], ["cr"])
        self.assertEqual([heap.back(), heap.back()], [True, True])
        self.assert_holds(heap, (A,), [["ar"]])
        heap.add(["aw"])
        self.assertEqual([heap.back() for turn in range(3)], [True, True, False])

    def test_asking_is_no_deed(self):
        heap = heap_of((A,), ["ar"], ["br"])
        whole(heap, 2)
        self.assertTrue(heap.back())
        self.assert_holds(heap, (A,), [["ar"]])

    def test_what_is_refused_is_not_taken_back(self):
        heap = heap_of((A, B), ["ar"], ["aw", "ac"])
        calls = (
            lambda: heap.add(["zz"]), lambda: heap.reread(2, 0, "ar"), lambda: heap.reread(0, 1, "ar"),
            lambda: heap.reread(1, 0, "ar"), lambda: heap.change(2, A), lambda: heap.change(0, ("use", 2)),
            lambda: heap.rows(2), lambda: heap.work(-1),
        )
        for call in calls:
            self.assertIsNotNone(refusal(call))
        self.assertTrue(heap.back())
        self.assert_holds(heap, (A, B), [["ar"]])
        self.assertEqual([heap.back(), heap.back()], [True, False])

    def test_what_is_refused_follows_deeds_and_those_taken_back(self):
        heap = heap_of((A, B), ["aw", "ac"])
        refused = (
            (lambda: heap.reread(0, 0, "ar"), BadStep), (lambda: heap.reread(1, 0, "ar"), NoWork),
            (lambda: heap.rows(1), NoWork), (lambda: heap.change(0, ("all", (("use", 1),) * 4)), None),
        )
        for call, kind in refused[:3]:
            self.assert_refused(heap, 1, call, kind)
        heap.add(["br"])
        heap.reread(0, 1, "ar")
        for call, kind in refused[:3]:
            self.assertIsNone(refusal(call))
        # Eight steps are too many, as soon as a scheme that is used four times has two.
        self.assertIsNone(refusal(refused[3][0]))
        two = ("all", (A, B))
        self.assert_refused(heap, 2, lambda: heap.change(1, two), BadPaper)
        self.assertTrue(heap.back())
        self.assertEqual(heap.change(1, two), [])
        self.assert_refused(heap, 2, refused[3][0], BadPaper)
        for turn in range(5):
            self.assertTrue(heap.back())
        for call, kind in refused[:3]:
            self.assert_refused(heap, 1, call, kind)
        self.assert_holds(heap, (A, B), [["aw", "ac"]])

    def test_a_full_heap_that_refuses_has_nothing_more_to_take_back(self):
        heap = heap_of((A,), *[["ar"]] * 20)
        self.assertIsNotNone(refusal(lambda: heap.add(["br"])))
        self.assertEqual([heap.back() for turn in range(21)], [True] * 20 + [False])


class AskedTest(HeapCase):

    def test_no_such_work_is_refused(self):
        heap = heap_of((A,), ["ar"], ["br"])
        for number in NO_NUMBERS + (2, 3):
            self.assert_refused(heap, 2, lambda: heap.work(number), NoWork)
            self.assert_refused(heap, 2, lambda: heap.rows(number), NoWork)
        for ask in (Heap((A,)).work, Heap((A,)).rows):
            self.assertIs(refusal(lambda: ask(0)).__class__, NoWork)

    def test_kinds_of_what_is_told(self):
        heap = heap_of((A,), ["ar"])
        self.assertEqual([told.__class__ for told in (heap.work(0), heap.rows(0), heap.sheet())], [list, list, list])
        self.assertEqual([part.__class__ for part in heap.rows(0)[0]], [int, int, tuple])
        self.assertEqual((heap.sheet(), heap.sheet()[0].__class__), ([3], int))


class NothingKeptTest(HeapCase):

    def test_a_list_that_was_put_on_a_heap_may_be_changed(self):
        work = ["ar", "bw"]
        heap = Heap((A,))
        heap.add(work)
        work[0] = "zz"
        work.clear()
        self.assert_holds(heap, (A,), [["ar", "bw"]])
        self.assertEqual(heap.reread(0, 1, "ar"), [])
        self.assertTrue(heap.back())
        self.assert_holds(heap, (A,), [["ar", "bw"]])

    def test_no_list_that_is_handed_in_is_changed(self):
        work = ["ar", "bw"]
        heap = Heap((A,))
        heap.add(work)
        heap.add(work)
        heap.reread(0, 0, "aw")
        heap.change(0, B)
        heap.back()
        self.assertEqual(work, ["ar", "bw"])
        self.assertEqual([heap.work(0), heap.work(1)], [["aw", "bw"], ["ar", "bw"]])

    def test_lists_that_are_told_may_be_changed(self):
        paper = (("all", (A, B)),)
        heap = heap_of(paper, ["ar", "br"], ["br"])
        for change in (list.clear, list.reverse, lambda told: told.append("zz")):
            for told in (heap.work(0), heap.rows(0), heap.rows(1), heap.sheet()):
                change(told)
                self.assert_holds(heap, paper, [["ar", "br"], ["br"]])
            for deed in (lambda: heap.reread(0, 0, "aw"), lambda: heap.change(0, A)):
                told = deed()
                before = whole(heap, 2)
                change(told)
                self.assertEqual(whole(heap, 2), before)
                self.assertTrue(heap.back())
                self.assert_holds(heap, paper, [["ar", "br"], ["br"]])

    def test_asked_again_the_same_is_told(self):
        heap = heap_of(LARGE[2], ["ar", "br", "cr"], ["hw", "gc"])
        for turn in range(3):
            self.assert_holds(heap, LARGE[2], [["ar", "br", "cr"], ["hw", "gc"]])

    def test_two_heaps_know_nothing_of_each_other(self):
        for paper, other in (((A, B), (A, B)), ((A, B), (C,))):
            one, two = heap_of(paper, ["ar"]), heap_of(other, ["cr"], ["ar"])
            one.change(0, ("use", 1))
            one.reread(0, 0, "br")
            self.assert_holds(two, other, [["cr"], ["ar"]])
            two.reread(0, 0, "hw")
            two.back()
            two.back()
            self.assert_holds(one, (("use", 1), B), [["br"]])
            self.assert_holds(two, other, [["cr"]])
            self.assertEqual([one.back() for turn in range(4)], [True, True, True, False])
            self.assert_holds(two, other, [["cr"]])
            self.assertEqual([two.back(), two.back()], [True, False])

    def test_a_paper_is_not_changed(self):
        paper = (("all", (A, ("use", 1))), B)
        before = deepcopy(paper)
        heap = heap_of(paper, ["ar"])
        heap.change(1, C)
        heap.change(0, B)
        self.assertEqual(paper, before)


class DeedsTest(HeapCase):
    """Many deeds, each held against what the document says of it, and all taken back."""

    WORKS = (["ar", "br", "cr"], ["bw", "ac", "ar"], [], ["cr", "aw", "bc", "hr", "br", "ar", "cc"], ["hr"] * 12)
    STEPS = ("ar", "aw", "ac", "br", "bw", "bc", "cr", "cw", "cc", "hr")

    def differences(self, ahead, now):
        """What reread tells of these rows."""
        wheres = sorted({row[2] for row in ahead + now})
        told = []
        for where in wheres:
            row = [next(((place, points) for place, points, at in rows if at == where), None) for rows in (ahead, now)]
            if row[0] != row[1]:
                told.append((where, *row))
        return told

    def reread_all(self, heap, paper, works, turn):
        """Reread a step of each work, and tell how many were."""
        many = 0
        for number, work in enumerate(works):
            if not work:
                continue
            place, step = turn % len(work), self.STEPS[(turn * 7 + number) % len(self.STEPS)]
            reread = work[:place] + [step] + work[place + 1:]
            if is_work(reread):
                due = self.differences(earned(paper, work), earned(paper, reread))
                self.assertEqual(heap.reread(number, place, step), due)
                works[number] = reread
                many += 1
            else:
                self.assert_refused(heap, len(works), lambda: heap.reread(number, place, step), BadStep)
        return many

    def test_rereads_and_changes(self):
        firsts = [paper for paper in PAPERS + LARGE if len(paper) == 1]
        for turn, (first,) in enumerate(firsts):
            paper, works = (A,), [list(work) for work in self.WORKS]
            heap = heap_of(paper, *works)
            self.reread_all(heap, paper, works, turn)
            before = deepcopy(works)
            due = [at for at, work in enumerate(works) if earned((A,), work) != earned((first,), work)]
            self.assertEqual(heap.change(0, first), due)
            self.assert_holds(heap, (first,), works)
            many = 1
            for again in range(5):
                many += self.reread_all(heap, (first,), works, turn + again)
                self.assert_holds(heap, (first,), works)
            self.assertEqual([heap.back() for deed in range(many)], [True] * many)
            self.assert_holds(heap, paper, before)
            while heap.back():
                pass
            self.assert_holds(heap, paper, [])

    def test_large_papers(self):
        for paper in LARGE:
            works = [list(work) for work in self.WORKS]
            heap = heap_of(paper, *works)
            for turn in range(12):
                self.reread_all(heap, paper, works, turn)
                self.assert_holds(heap, paper, works)
            changed = paper[:-1] + (("carry", ("end", "a", 1, ("step", "h", 9))),)
            due = [at for at, work in enumerate(works) if earned(paper, work) != earned(changed, work)]
            self.assertEqual(heap.change(len(paper) - 1, changed[-1]), due)
            self.assert_holds(heap, changed, works)
            self.assertTrue(heap.back())
            self.assert_holds(heap, paper, works)
