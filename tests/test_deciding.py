"""Point 7: where papers part, what works can still come to, and what is ever earned."""

import unittest
from itertools import combinations, product

from markscript.deciding import earnable, parted, span
from markscript.machines import made
from markscript.reading import earned, marked
from tests.helpers import all_works, assert_bad_paper, assert_bad_work, is_work, refusal, steps_of, walker
from tests.samples import ALIKE, ALIKE_BUT_FOR_WORDS, A, B, C, LARGE, PAPERS

# The words of the papers, and the least one that none of them has: a least work has no other steps.
WORDS = "abcd"
WORKS = all_works(WORDS, 3)
BAD = (A, ("half", None))
OTHER_BAD = (A, B, ("use", 1))


def turn_of(work):
    """What tells which of two works comes ahead."""
    return (len(work), work)


class PartedTest(unittest.TestCase):

    def assert_parted(self, one, other, work):
        """Two papers part there, either way round; what is told is a list."""
        for first, second in ((one, other), (other, one)):
            told = parted(first, second)
            self.assertEqual(told, work, (first, second))
            if work is not None:
                self.assertIs(told.__class__, list)
                self.assertNotEqual(marked(first, work), marked(second, work))

    def test_papers_that_mark_alike_part_nowhere(self):
        for one, other in ALIKE + ALIKE_BUT_FOR_WORDS:
            self.assert_parted(one, other, None)

    def test_a_paper_and_itself_part_nowhere(self):
        for paper in PAPERS + LARGE:
            self.assertIsNone(parted(paper, paper))

    def test_no_lesser_work_is_marked_otherwise(self):
        told = [[marked(paper, work) for work in WORKS] for paper in PAPERS]
        for one, other in combinations(range(len(PAPERS)), 2):
            least = None
            for work, first, second in zip(WORKS, told[one], told[other]):
                if first != second:
                    least = work
                    break
            work = parted(PAPERS[one], PAPERS[other])
            if least is not None:
                self.assertEqual(work, least, (PAPERS[one], PAPERS[other]))
            elif work is not None:
                self.assertGreater(len(work), 3)
                self.assertTrue(is_work(work))
                self.assertNotEqual(marked(PAPERS[one], work), marked(PAPERS[other], work))

    def test_the_other_way_round_the_same(self):
        for one, other in list(combinations(PAPERS[::2], 2)) + list(combinations(LARGE, 2)):
            self.assertEqual(parted(one, other), parted(other, one))

    def test_by_points(self):
        self.assert_parted((A,), (("step", "a", 4),), ["ar"])
        self.assert_parted((("step", "b", 4),), (B,), ["br"])

    def test_by_a_step_of_a_word_that_one_has_not(self):
        self.assert_parted((A,), (("all", (A, B)),), ["br"])
        self.assert_parted((A,), (("step", "h", 3),), ["ar"])
        self.assert_parted((A,), (("all", (A, ("step", "h", 3))),), ["hr"])
        self.assert_parted((A,), (("best", (A, ("seen", "g", ("step", "a", 9)))),), ["ar", "gr"])

    def test_by_a_carried_step(self):
        self.assert_parted((A,), (("carry", A),), ["aw", "ac"])
        self.assert_parted((B,), (("carry", B),), ["aw", "bc"])
        self.assert_parted((("behind", "b", A),), (("behind", "b", ("carry", A)),), ["aw", "br", "ac"])
        self.assert_parted((("end", "a", 9, B),), (("carry", ("end", "a", 9, B)),), ["aw", "ac"])

    def test_by_the_order_of_steps(self):
        both = ("all", (("most", 1, A), ("most", 1, B)))
        self.assert_parted((("behind", "b", A),), (("behind", "a", ("seen", "b", A)),), ["br", "ar"])
        self.assert_parted((("seen", "b", A),), (("behind", "b", A),), ["ar", "br"])
        self.assert_parted((both,), (("all", (("most", 1, A), ("behind", "a", ("most", 1, B)))),), ["br"])
        one, other = ("behind", "a", ("behind", "b", C)), ("behind", "b", ("behind", "a", C))
        self.assert_parted((one,), (other,), ["ar", "br", "cr"])

    def test_by_a_last_step(self):
        self.assert_parted((A,), (("end", "a", 9, A),), ["ar"])
        self.assert_parted((B,), (("end", "a", 5, B),), ["ar"])
        self.assert_parted((("end", "a", 3, A),), (("end", "a", 3, ("most", 2, A)),), ["ar", "aw"])

    def test_by_a_step_of_a_word_that_neither_has(self):
        # Both ends tell alike, so another step must come last, and the least of all is of a word ahead of theirs.
        self.assert_parted((("end", "b", 5, B),), (("end", "b", 5, ("most", 4, B)),), ["br", "ar"])
        self.assert_parted((("end", "c", 2, C),), (("end", "c", 2, ("half", C)),), ["cr", "ar"])
        self.assert_parted((("end", "a", 3, A),), (("end", "a", 3, ("half", A)),), ["ar", "aw"])

    def test_a_work_may_have_many_steps(self):
        steps = [("step", word, 1) for word in "abcdefg"]
        whole = ("all", (("all", tuple(steps[:4])), ("all", tuple(steps[4:]))))
        self.assert_parted((whole,), (("most", 6, whole),), ["ar", "br", "cr", "dr", "er", "fr", "gr"])
        inner = ("step", "e", 9)
        for word in "dcb":
            inner = ("behind", word, inner)
        self.assert_parted((inner,), (("most", 8, inner),), ["br", "cr", "dr", "er"])

    def test_a_work_of_ten_steps(self):
        steps = tuple(("step", word, 1) for word in "abcdefg")
        whole = ("all", (("all", steps[:4]), ("all", steps[4:])))
        one = (("behind", "a", ("behind", "a", ("behind", "a", ("use", 1)))), whole)
        other = (("most", 6, ("use", 1)), ("behind", "a", ("behind", "a", ("behind", "a", ("use", 2)))), whole)
        self.assert_parted(one, other, ["ar", "ar", "ar", "ar", "br", "cr", "dr", "er", "fr", "gr"])

    def test_large_papers(self):
        works = all_works("abcdefgh", 2)
        for one, other in combinations(LARGE, 2):
            work = parted(one, other)
            self.assertTrue(is_work(work))
            self.assertNotEqual(marked(one, work), marked(other, work))
            for lesser in works:
                if turn_of(lesser) < turn_of(work):
                    self.assertEqual(marked(one, lesser), marked(other, lesser))

    def test_a_large_paper_and_one_that_marks_alike(self):
        for paper in LARGE[:3]:
            first = paper[0]
            self.assertIsNone(parted(paper, (("all", first[1][::-1]),) + paper[1:]))

    def test_papers_that_can_not_be_are_refused_the_first_ahead(self):
        assert_bad_paper(self, BAD, 1, (0,))
        assert_bad_paper(self, OTHER_BAD, 2, ())
        for one, other, scheme, place in (
            (BAD, OTHER_BAD, 1, (0,)), (OTHER_BAD, BAD, 2, ()), (BAD, (A,), 1, (0,)), ((A,), OTHER_BAD, 2, ()),
        ):
            refused = refusal(lambda: parted(one, other))
            self.assertEqual((refused.scheme, refused.place), (scheme, place))


class SpanTest(unittest.TestCase):
    WORKS = (
        [], ["ar"], ["br"], ["hw"], ["aw", "bc"], ["cw", "br", "ac"], ["br", "ar", "cr", "hr"], ["hr"] * 12,
        ["hw"] + ["hc"] * 11, ["br", "aw"] + ["cr", "gr"] * 5, ["hr"] * 10 + ["br", "ar"],
    )

    def test_by_all_further_works_of_at_most_two_steps(self):
        rows = [list(row) for many in range(3) for row in product(steps_of(WORDS), repeat=many)]
        for paper in PAPERS:
            points_of = walker(made(paper))
            for work in self.WORKS:
                least, fewest, most, steps = span(paper, work)
                self.assertTrue(is_work(work + fewest) and is_work(work + steps))
                self.assertEqual(points_of(work + fewest), least)
                self.assertEqual(points_of(work + steps), most)
                for row in rows:
                    if is_work(work + row):
                        points = points_of(work + row)
                        self.assertTrue(least <= points <= most, (paper, work, row))
                        self.assertTrue(points > least or turn_of(fewest) <= turn_of(row), (paper, work, row))
                        self.assertTrue(points < most or turn_of(steps) <= turn_of(row), (paper, work, row))

    def test_points_are_those_that_marked_tells(self):
        for paper in PAPERS + LARGE:
            for work in ([], ["bw"], ["ar", "br"]):
                least, fewest, most, steps = span(paper, work)
                self.assertEqual([marked(paper, work + fewest), marked(paper, work + steps)], [least, most])

    def test_of_no_steps(self):
        self.assertEqual(span((A,), []), (0, [], 3, ["ar"]))
        self.assertEqual(span((("carry", A),), []), (0, [], 3, ["ar"]))
        self.assertEqual(span((("all", (B, A)),), []), (0, [], 8, ["ar", "br"]))
        self.assertEqual(span((("behind", "b", A),), []), (0, [], 3, ["br", "ar"]))
        self.assertEqual(span((("seen", "b", A),), []), (0, [], 3, ["ar", "br"]))
        self.assertEqual(span((("best", (A, B)),), []), (0, [], 5, ["br"]))

    def test_of_some_steps(self):
        self.assertEqual(span((("all", (B, A)),), ["br"]), (5, [], 8, ["ar"]))
        self.assertEqual(span((("behind", "b", A),), ["ar", "br"]), (0, [], 3, ["ar"]))
        self.assertEqual(span((A,), ["br", "aw"]), (0, [], 3, ["ar"]))

    def test_a_carried_step_may_come_behind_a_wrong_one(self):
        self.assertEqual(span((("carry", A),), ["bw"]), (0, [], 3, ["ac"]))
        self.assertEqual(span((("carry", ("behind", "b", A)),), ["ar", "cw"]), (0, [], 3, ["bc", "ac"]))
        self.assertEqual(span((("behind", "b", ("carry", A)),), ["ar", "cw"]), (0, [], 3, ["br", "ac"]))

    def test_points_may_be_lost_by_an_end(self):
        paper = (("end", "a", 1, B),)
        self.assertEqual(span(paper, ["br"]), (1, ["ar"], 5, []))
        self.assertEqual(span(paper, ["br", "ar"]), (1, [], 5, ["aw"]))
        self.assertEqual(span((("end", "a", 9, B),), ["br", "ar"]), (5, ["aw"], 9, []))
        self.assertEqual(span((("end", "b", 9, B),), ["br"]), (5, ["ar"], 9, []))
        self.assertEqual(span((("end", "b", 9, B),), ["bw", "br"]), (5, ["ac"], 9, []))

    def test_nothing_changes_any_more(self):
        self.assertEqual(span((A,), ["ar"]), (3, [], 3, []))
        self.assertEqual(span((A,), ["ar", "aw", "br"]), (3, [], 3, []))
        self.assertEqual(span((("most", 0, A),), []), (0, [], 0, []))
        self.assertEqual(span((("half", ("step", "a", 1)),), ["bw"]), (0, [], 0, []))
        self.assertEqual(span((("best", (B, ("most", 4, A))),), ["ar", "br"]), (5, [], 5, []))

    def test_of_twelve_steps(self):
        self.assertEqual(span((A,), ["br"] * 11 + ["ar"]), (3, [], 3, []))
        self.assertEqual(span((A,), ["br"] * 12), (0, [], 3, ["ar"]))
        self.assertEqual(span((("behind", "b", A),), ["cr"] * 12), (0, [], 3, ["br", "ar"]))
        self.assertEqual(span((("carry", ("behind", "b", A)),), ["cw"] + ["cr"] * 11), (0, [], 3, ["bc", "ac"]))
        self.assertEqual(span((("end", "a", 9, B),), ["br"] * 11 + ["ar"]), (5, ["aw"], 9, []))

    def test_large_papers(self):
        self.assertEqual(
            span(LARGE[0], []), (0, [], 42, ["ar", "br", "cr", "dr", "er", "fr", "gr", "hr"]),
        )
        work = ["ar", "br", "cw"] + ["dr", "er", "fr"] * 3
        self.assertEqual(span(LARGE[0], work), (28, [], 42, ["cr", "gr", "hc"]))
        for paper in LARGE:
            points_of = walker(made(paper))
            for work in ([], ["bw"], ["aw", "br"] * 6):
                told = span(paper, work)
                self.assertEqual([points_of(work + told[at]) for at in (1, 3)], [told[0], told[2]])

    def test_kinds_of_what_is_told(self):
        for paper in ((A,), (("most", 0, A),), LARGE[0]):
            for work in ([], ["aw"]):
                told = span(paper, work)
                self.assertIs(told.__class__, tuple)
                self.assertEqual([part.__class__ for part in told], [int, list, int, list])

    def test_what_can_not_be_is_refused_the_paper_ahead(self):
        assert_bad_paper(self, BAD, 1, (0,))
        assert_bad_work(self, ["ar", "ac"], 1)
        self.assertEqual(refusal(lambda: span(BAD, ["zz"])).scheme, 1)
        self.assertEqual(refusal(lambda: span((A,), ["ar"] * 13)).number, 12)


def earners_of(paper, scheme, where):
    """Where the steps and ends of a scheme stand, with what it uses, in turn."""
    if scheme[0] == "step":
        return [where]
    if scheme[0] == "use":
        return earners_of(paper, paper[scheme[1]], where + (0,))
    inner = scheme[1] if scheme[0] in ("all", "best") else scheme[-1:]
    found = [found for at, part in enumerate(inner) for found in earners_of(paper, part, where + (at,))]
    return [where] * (scheme[0] == "end") + found


class EarnableTest(unittest.TestCase):

    def test_by_all_works_of_at_most_three_steps(self):
        for paper in PAPERS:
            firsts = {}
            for work in WORKS:
                for place, points, where in earned(paper, work):
                    firsts.setdefault(where, work)
            told = earnable(paper)
            self.assertEqual([where for where, work in told], earners_of(paper, paper[0], ()))
            for where, work in told:
                if where in firsts or work is None:
                    self.assertEqual(work, firsts.get(where), (paper, where))
                else:
                    self.assertGreater(len(work), 3)
                    self.assertIn(where, [row[2] for row in earned(paper, work)])

    def test_each_sort_of_scheme(self):
        self.assertEqual(earnable((A,)), [((), ["ar"])])
        self.assertEqual(earnable((("all", (A, B, A)),)), [((0,), ["ar"]), ((1,), ["br"]), ((2,), ["ar"])])
        self.assertEqual(earnable((("best", (A, B)),)), [((0,), ["ar"]), ((1,), ["br"])])
        self.assertEqual(earnable((("most", 2, B),)), [((0,), ["br"])])
        self.assertEqual(earnable((("half", B),)), [((0,), ["br"])])
        self.assertEqual(earnable((("seen", "b", A),)), [((0,), ["ar", "br"])])
        self.assertEqual(earnable((("seen", "b", C),)), [((0,), ["br", "cr"])])
        self.assertEqual(earnable((("behind", "b", A),)), [((0,), ["br", "ar"])])
        self.assertEqual(earnable((("carry", A),)), [((0,), ["ar"])])
        self.assertEqual(earnable((("end", "a", 9, B),)), [((), ["ar"]), ((0,), ["br"])])
        self.assertEqual(earnable((("use", 1), A)), [((0,), ["ar"])])

    def test_an_end_is_ahead_of_what_is_within_it(self):
        paper = (("all", (A, ("end", "b", 2, ("all", (B, ("end", "c", 1, C)))), B)),)
        self.assertEqual(earnable(paper), [
            ((0,), ["ar"]), ((1,), ["br"]), ((1, 0, 0), ["br", "ar"]), ((1, 0, 1), ["cr"]),
            ((1, 0, 1, 0), ["cr", "ar"]), ((2,), ["br"]),
        ])

    def test_through_uses_and_uses_of_uses(self):
        first = ("all", (("use", 2), ("seen", "h", ("use", 1)), A))
        paper = (first, ("half", ("use", 2)), ("end", "c", 2, ("use", 3)), B)
        self.assertEqual(earnable(paper), [
            ((0, 0), ["cr"]), ((0, 0, 0, 0), ["br"]), ((1, 0, 0, 0, 0), ["hr", "cr"]),
            ((1, 0, 0, 0, 0, 0, 0), ["br", "hr"]), ((2,), ["ar"]),
        ])

    def test_as_often_as_a_use_brings_it_in(self):
        paper = (("all", (("use", 1), ("carry", ("use", 1)), ("use", 1))), ("behind", "b", A))
        wheres = [(0, 0, 0), (1, 0, 0, 0), (2, 0, 0)]
        self.assertEqual(earnable(paper), [(where, ["br", "ar"]) for where in wheres])

    def test_schemes_that_the_first_does_not_use_are_not_told(self):
        self.assertEqual(earnable((A, B, ("end", "c", 1, C))), [((), ["ar"])])

    def test_what_no_work_earns(self):
        nothing = ("half", ("step", "a", 1))
        self.assertEqual(earnable((("most", 0, A),)), [((0,), None)])
        self.assertEqual(earnable((nothing,)), [((0,), None)])
        self.assertEqual(earnable((("all", (nothing, A)),)), [((0, 0), None), ((1,), ["ar"])])
        self.assertEqual(earnable((("best", (("step", "a", 4), A)),)), [((0,), ["ar"]), ((1,), None)])
        self.assertEqual(earnable((("best", (A, A)),)), [((0,), ["ar"]), ((1,), None)])
        paper = (("best", (("all", (A, B)), B)),)
        self.assertEqual(earnable(paper), [((0, 0), ["ar"]), ((0, 1), ["br"]), ((1,), None)])

    def test_ends_that_can_not_be(self):
        # A right a that comes last ends the outer one, so the inner one never does.
        paper = (("end", "a", 9, ("end", "a", 1, B)),)
        self.assertEqual(earnable(paper), [((), ["ar"]), ((0,), None), ((0, 0), ["br"])])
        carried = ("end", "a", 9, ("carry", ("end", "a", 1, B)))
        self.assertEqual(earnable((carried,)), [((), ["ar"]), ((0, 0), ["aw", "ac"]), ((0, 0, 0), ["br"])])

    def test_points_that_are_cut_away_are_not_earned(self):
        paper = (("most", 3, ("all", (A, B, ("end", "c", 1, C)))),)
        self.assertEqual(earnable(paper), [
            ((0, 0), ["ar"]), ((0, 1), ["br"]), ((0, 2), ["cr"]), ((0, 2, 0), ["cr", "aw"]),
        ])

    def test_the_least_work_may_have_steps_of_words_that_the_paper_has_not(self):
        self.assertEqual(earnable((("end", "b", 9, B),)), [((), ["br"]), ((0,), ["br", "ar"])])

    def test_large_papers(self):
        for paper in LARGE:
            told = earnable(paper)
            self.assertEqual([where for where, work in told], earners_of(paper, paper[0], ()))
            self.assertEqual(len(told), 7)
            for where, work in told:
                if work is not None:
                    self.assertIn(where, [row[2] for row in earned(paper, work)])
        self.assertEqual([work for where, work in earnable(LARGE[0])], [
            ["ar"], ["br"], ["cr"], ["dr"], ["er"], ["ar", "fr", "hr"], ["ar", "br", "gr", "hr"],
        ])

    def test_kinds_of_what_is_told(self):
        for paper in PAPERS:
            told = earnable(paper)
            self.assertIs(told.__class__, list)
            for row in told:
                self.assertEqual((row.__class__, len(row), row[0].__class__), (tuple, 2, tuple))
                self.assertIn(row[1].__class__, (list, None.__class__))

    def test_a_paper_that_can_not_be_is_refused(self):
        assert_bad_paper(self, BAD, 1, (0,))
