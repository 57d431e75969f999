"""Point 5: what each sort of scheme earns, alone and within others."""

import unittest

from markscript.reading import earned, marked
from tests.helpers import all_works, nested

A = ("step", "a", 3)
B = ("step", "b", 5)
C = ("step", "c", 2)


class ReadingTest(unittest.TestCase):

    def assert_earned(self, paper, work, rows):
        self.assertEqual(earned(paper, work), rows, (paper, work))
        self.assertEqual(marked(paper, work), sum(row[1] for row in rows), (paper, work))


class StepTest(ReadingTest):

    def test_the_first_right_step_of_its_word_earns(self):
        self.assert_earned((A,), ["ar"], [(0, 3, ())])
        self.assert_earned((A,), ["br", "aw", "ar", "ar"], [(2, 3, ())])

    def test_none_is_earned_if_there_is_no_such_step(self):
        for work in ([], ["aw"], ["br"], ["bw", "ac"], ["br", "bw", "ac", "cr"]):
            self.assert_earned((A,), work, [])

    def test_each_word_and_all_points(self):
        for word in "abcdefgh":
            for points in range(1, 10):
                self.assert_earned((("step", word, points),), ["hw", word + "r"], [(1, points, ())])

    def test_the_last_of_twelve_steps_may_earn(self):
        self.assert_earned((A,), ["aw"] + ["ac", "br"] * 5 + ["ar"], [(11, 3, ())])

    def test_rows_are_tuples_of_two_numbers_and_a_tuple(self):
        rows = earned((A,), ["ar"])
        self.assertIs(rows.__class__, list)
        self.assertIs(rows[0].__class__, tuple)
        self.assertEqual([part.__class__ for part in rows[0]], [int, int, tuple])
        self.assertIs(marked((A,), []).__class__, int)


class AllTest(ReadingTest):

    def test_the_rows_of_all_in_turn_of_the_schemes(self):
        paper = (("all", (A, B, C)),)
        self.assert_earned(paper, ["cr", "br", "ar"], [(2, 3, (0,)), (1, 5, (1,)), (0, 2, (2,))])
        self.assert_earned(paper, ["cr", "bw", "ar"], [(2, 3, (0,)), (0, 2, (2,))])
        self.assert_earned(paper, ["cw"], [])

    def test_one_scheme_and_four(self):
        self.assert_earned((("all", (A,)),), ["ar"], [(0, 3, (0,))])
        rows = [(0, 3, (at,)) for at in range(4)]
        self.assert_earned((("all", (A, A, A, A)),), ["ar"], rows)

    def test_an_all_in_an_all(self):
        paper = (("all", (("all", (A, B)), ("all", (C, A)))),)
        rows = [(1, 3, (0, 0)), (2, 5, (0, 1)), (0, 2, (1, 0)), (1, 3, (1, 1))]
        self.assert_earned(paper, ["cr", "ar", "br"], rows)


class BestTest(ReadingTest):

    def test_the_one_with_the_most_points(self):
        paper = (("best", (A, B, C)),)
        self.assert_earned(paper, ["ar", "br", "cr"], [(1, 5, (1,))])
        self.assert_earned(paper, ["cr", "ar"], [(1, 3, (0,))])
        self.assert_earned(paper, ["cr"], [(0, 2, (2,))])
        self.assert_earned(paper, [], [])

    def test_the_first_of_those_with_as_many(self):
        paper = (("best", (C, A, ("step", "d", 3), ("step", "e", 3))),)
        self.assert_earned(paper, ["er", "dr", "ar", "cr"], [(2, 3, (1,))])
        self.assert_earned(paper, ["er", "dr", "cr"], [(1, 3, (2,))])

    def test_points_count_and_not_rows(self):
        paper = (("best", (("all", (C, ("step", "c", 1))), B)),)
        self.assert_earned(paper, ["cr", "br"], [(1, 5, (1,))])
        paper = (("best", (B, ("all", (A, C, ("step", "a", 1))))),)
        self.assert_earned(paper, ["ar", "br", "cr"], [(0, 3, (1, 0)), (2, 2, (1, 1)), (0, 1, (1, 2))])

    def test_one_scheme(self):
        self.assert_earned((("best", (A,)),), ["ar"], [(0, 3, (0,))])


class MostTest(ReadingTest):
    ALL = ("all", (A, B, C))
    WORK = ["ar", "br", "cr"]

    def test_the_first_so_many_points_in_turn(self):
        whole = [(0, 3, (0, 0)), (1, 5, (0, 1)), (2, 2, (0, 2))]
        for number in (10, 11, 30):
            self.assert_earned((("most", number, self.ALL),), self.WORK, whole)
        self.assert_earned((("most", 9, self.ALL),), self.WORK, whole[:2] + [(2, 1, (0, 2))])
        self.assert_earned((("most", 8, self.ALL),), self.WORK, whole[:2])
        self.assert_earned((("most", 4, self.ALL),), self.WORK, whole[:1] + [(1, 1, (0, 1))])
        self.assert_earned((("most", 3, self.ALL),), self.WORK, whole[:1])
        self.assert_earned((("most", 1, self.ALL),), self.WORK, [(0, 1, (0, 0))])

    def test_a_most_of_naught_earns_none(self):
        self.assert_earned((("most", 0, self.ALL),), self.WORK, [])

    def test_a_most_of_thirty_takes_from_what_is_more(self):
        steps = tuple(("step", word, 9) for word in "abcd")
        work = ["ar", "br", "cr", "dr"]
        rows = [(0, 9, (0, 0)), (1, 9, (0, 1)), (2, 9, (0, 2)), (3, 3, (0, 3))]
        self.assert_earned((("most", 30, ("all", steps)),), work, rows)

    def test_what_isn_t_earned_takes_none(self):
        self.assert_earned((("most", 4, self.ALL),), ["br", "cr"], [(0, 4, (0, 1))])

    def test_a_most_in_a_most(self):
        self.assert_earned((("most", 4, ("most", 9, B)),), ["br"], [(0, 4, (0, 0))])
        self.assert_earned((("most", 9, ("most", 4, B)),), ["br"], [(0, 4, (0, 0))])


class HalfTest(ReadingTest):

    def test_half_of_the_points_rounded_down(self):
        for points in range(1, 10):
            rows = [(0, points // 2, (0,))] if points > 1 else []
            self.assert_earned((("half", ("step", "a", points)),), ["ar"], rows)

    def test_the_sum_is_halved_and_not_each_row(self):
        paper = (("half", ("all", (A, B, C))),)
        self.assert_earned(paper, ["ar", "br", "cr"], [(0, 3, (0, 0)), (1, 2, (0, 1))])
        self.assert_earned(paper, ["ar", "br"], [(0, 3, (0, 0)), (1, 1, (0, 1))])
        self.assert_earned(paper, ["ar", "cr"], [(0, 2, (0, 0))])
        self.assert_earned(paper, [], [])

    def test_halves_of_halves(self):
        self.assert_earned((nested("half", 2, ("step", "a", 9)),), ["ar"], [(0, 2, (0, 0))])
        self.assert_earned((nested("half", 3, ("step", "a", 9)),), ["ar"], [(0, 1, (0, 0, 0))])
        self.assert_earned((nested("half", 4, ("step", "a", 9)),), ["ar"], [])


class SeenTest(ReadingTest):
    PAPER = (("seen", "b", A),)

    def test_the_word_may_stand_anywhere_however_it_was_done(self):
        for work in (["br", "ar"], ["bw", "ar"], ["cw", "bc", "ar"]):
            self.assert_earned(self.PAPER, work, [(len(work) - 1, 3, (0,))])
        for work in (["ar", "br"], ["ar", "bw"], ["ar", "cw", "bc"]):
            self.assert_earned(self.PAPER, work, [(0, 3, (0,))])

    def test_none_if_it_does_not_stand_there(self):
        for work in ([], ["ar"], ["ar", "cr"], ["br"]):
            self.assert_earned(self.PAPER, work, [])

    def test_the_own_word_of_a_step(self):
        self.assert_earned((("seen", "a", A),), ["ar"], [(0, 3, (0,))])
        self.assert_earned((("seen", "a", A),), ["aw"], [])

    def test_it_may_stand_ahead_of_the_steps_that_are_looked_at(self):
        paper = (("behind", "b", ("seen", "c", A)),)
        self.assert_earned(paper, ["cw", "br", "ar"], [(2, 3, (0, 0))])
        self.assert_earned((("behind", "b", ("seen", "b", A)),), ["br", "ar"], [(1, 3, (0, 0))])
        self.assert_earned(paper, ["br", "ar"], [])

    def test_steps_ahead_of_it_are_looked_at_too(self):
        self.assert_earned((("seen", "b", ("all", (A, C))),), ["ar", "bw", "cr"], [(0, 3, (0, 0)), (2, 2, (0, 1))])


class BehindTest(ReadingTest):
    PAPER = (("behind", "b", A),)

    def test_steps_behind_the_first_of_its_word_are_looked_at(self):
        self.assert_earned(self.PAPER, ["br", "ar"], [(1, 3, (0,))])
        self.assert_earned(self.PAPER, ["ar", "br", "cr", "ar", "br", "ar"], [(3, 3, (0,))])

    def test_none_without_such_steps(self):
        for work in ([], ["ar"], ["ar", "br"], ["bw", "ar"], ["cw", "bc", "ar"], ["br"], ["br", "aw"]):
            self.assert_earned(self.PAPER, work, [])

    def test_the_first_that_counts_and_not_the_first_of_its_word(self):
        self.assert_earned(self.PAPER, ["bw", "ar", "br", "ar"], [(3, 3, (0,))])
        self.assert_earned(self.PAPER, ["bw", "bc", "ar", "br", "br", "ar"], [(5, 3, (0,))])

    def test_the_step_itself_is_not_looked_at(self):
        self.assert_earned((("behind", "a", A),), ["ar"], [])
        self.assert_earned((("behind", "a", A),), ["ar", "ar", "ar"], [(1, 3, (0,))])

    def test_behind_a_behind(self):
        paper = (("behind", "a", ("behind", "b", C)),)
        self.assert_earned(paper, ["ar", "br", "cr"], [(2, 2, (0, 0))])
        self.assert_earned(paper, ["br", "ar", "cr"], [])
        self.assert_earned(paper, ["br", "ar", "cr", "br", "cr"], [(4, 2, (0, 0))])
        self.assert_earned((("behind", "a", ("behind", "a", A)),), ["ar", "ar", "ar"], [(2, 3, (0, 0))])

    def test_it_ends_with_its_scheme(self):
        paper = (("all", (("behind", "b", A), A, ("behind", "a", B))),)
        self.assert_earned(paper, ["ar", "br", "ar"], [(2, 3, (0, 0)), (0, 3, (1,)), (1, 5, (2, 0))])


class CarryTest(ReadingTest):

    def test_carried_steps_count_within(self):
        self.assert_earned((("carry", A),), ["aw", "ac"], [(1, 3, (0,))])
        self.assert_earned((("carry", A),), ["bw", "ac", "ar"], [(1, 3, (0,))])
        self.assert_earned((("carry", A),), ["ar", "bw", "ac"], [(0, 3, (0,))])

    def test_wrong_steps_never_count(self):
        self.assert_earned((("carry", A),), ["aw"], [])
        self.assert_earned((("carry", A),), ["aw", "aw", "bc"], [])

    def test_carried_steps_do_not_count_outside(self):
        paper = (("all", (A, ("carry", A), A)),)
        self.assert_earned(paper, ["aw", "ac"], [(1, 3, (1, 0))])
        self.assert_earned(paper, ["bw", "ac", "ar"], [(2, 3, (0,)), (1, 3, (1, 0)), (2, 3, (2,))])

    def test_a_behind_counts_carried_steps_within_alone(self):
        work = ["aw", "bc", "ar", "br", "ar"]
        self.assert_earned((("carry", ("behind", "b", A)),), work, [(2, 3, (0, 0))])
        self.assert_earned((("behind", "b", ("carry", A)),), work, [(4, 3, (0, 0))])
        self.assert_earned((("behind", "b", ("carry", A)),), ["br", "aw", "ac"], [(2, 3, (0, 0))])

    def test_it_holds_through_all_that_is_within(self):
        for scheme, where in (
            (("all", (A,)), (0, 0)), (("best", (A,)), (0, 0)), (("most", 9, A), (0, 0)), (("seen", "b", A), (0, 0)),
            (("carry", A), (0, 0)), (("use", 1), (0, 0)), (("end", "b", 1, A), (0, 0)),
        ):
            self.assert_earned((("carry", scheme), A), ["bw", "ac"], [(1, 3, where)])
            self.assert_earned((scheme, A), ["bw", "ac"], [(1, 3, (0,))] if scheme[0] == "carry" else [])
        self.assert_earned((("carry", ("half", A)),), ["bw", "ac"], [(1, 1, (0, 0))])
        self.assert_earned((("carry", ("behind", "b", A)),), ["br", "bw", "ac"], [(2, 3, (0, 0))])


class EndTest(ReadingTest):
    PAPER = (("end", "a", 9, ("all", (A, B))),)

    def test_the_last_step_earns_and_no_more_is_earned(self):
        self.assert_earned(self.PAPER, ["ar"], [(0, 9, ())])
        self.assert_earned(self.PAPER, ["ar", "br", "ar"], [(2, 9, ())])

    def test_another_road_earns_its_rows(self):
        self.assert_earned(self.PAPER, ["ar", "br"], [(0, 3, (0, 0)), (1, 5, (0, 1))])
        self.assert_earned(self.PAPER, ["ar", "br", "aw"], [(0, 3, (0, 0)), (1, 5, (0, 1))])
        self.assert_earned(self.PAPER, ["br", "bw", "ac"], [(0, 5, (0, 1))])
        self.assert_earned(self.PAPER, ["aw"], [])
        self.assert_earned(self.PAPER, [], [])

    def test_fewer_points_than_the_other_road_are_earned_all_the_same(self):
        self.assert_earned((("end", "a", 1, B),), ["br", "ar"], [(1, 1, ())])

    def test_it_ends_what_is_within_it_alone(self):
        paper = (("all", (B, self.PAPER[0], A)),)
        self.assert_earned(paper, ["br", "ar"], [(0, 5, (0,)), (1, 9, (1,)), (1, 3, (2,))])

    def test_a_last_step_that_is_not_looked_at_is_no_end(self):
        paper = (("behind", "a", ("end", "a", 9, B)),)
        self.assert_earned(paper, ["ar"], [])
        self.assert_earned(paper, ["ar", "br"], [(1, 5, (0, 0))])
        self.assert_earned(paper, ["ar", "ar"], [(1, 9, (0,))])
        self.assert_earned(paper, ["ar", "br", "ar"], [(2, 9, (0,))])

    def test_a_carried_last_step_counts_within_a_carry_alone(self):
        self.assert_earned((("carry", ("end", "a", 9, B)),), ["br", "bw", "ac"], [(2, 9, (0,))])
        self.assert_earned((("end", "a", 9, ("carry", A)),), ["bw", "ac"], [(1, 3, (0, 0))])

    def test_an_end_in_an_end(self):
        paper = (("end", "a", 9, ("end", "b", 8, C)),)
        self.assert_earned(paper, ["cr", "br", "ar"], [(2, 9, ())])
        self.assert_earned(paper, ["cr", "ar", "br"], [(2, 8, (0,))])
        self.assert_earned(paper, ["ar", "br", "cr"], [(2, 2, (0, 0))])

    def test_the_last_of_twelve_steps(self):
        self.assert_earned(self.PAPER, ["br"] * 11 + ["ar"], [(11, 9, ())])

    def test_ends_are_cut_as_steps_are(self):
        self.assert_earned((("most", 4, self.PAPER[0]),), ["br", "ar"], [(1, 4, (0,))])
        self.assert_earned((("half", self.PAPER[0]),), ["br", "ar"], [(1, 4, (0,))])


class UseTest(ReadingTest):

    def test_the_rows_of_the_used_scheme_with_a_naught_behind_its_place(self):
        self.assert_earned((("use", 1), A), ["ar"], [(0, 3, (0,))])
        self.assert_earned((("use", 2), B, A), ["br", "ar"], [(1, 3, (0,))])
        self.assert_earned((("use", 1), ("all", (A, B))), ["ar", "br"], [(0, 3, (0, 0)), (1, 5, (0, 1))])

    def test_uses_of_uses(self):
        paper = (("all", (C, ("use", 1))), ("best", (A, ("use", 3))), A, ("most", 4, ("use", 4)), B)
        self.assert_earned(paper, ["cr", "ar", "br"], [(0, 2, (0,)), (2, 4, (1, 0, 1, 0, 0, 0))])
        self.assert_earned(paper, ["cr", "ar"], [(0, 2, (0,)), (1, 3, (1, 0, 0))])

    def test_places_grow_longer_through_uses(self):
        paper = tuple(nested("carry", 4, ("use", number)) for number in range(1, 5)) + (nested("carry", 4, A),)
        self.assert_earned(paper, ["ar"], [(0, 3, (0,) * 24)])

    def test_a_scheme_that_is_used_twice_stands_in_two_places(self):
        paper = (("all", (("use", 1), A, ("use", 1))), ("end", "b", 4, ("all", (A, C))))
        rows = [(0, 3, (0, 0, 0, 0)), (1, 2, (0, 0, 0, 1)), (0, 3, (1,)), (0, 3, (2, 0, 0, 0)), (1, 2, (2, 0, 0, 1))]
        self.assert_earned(paper, ["ar", "cr"], rows)
        self.assert_earned(paper, ["ar", "br"], [(1, 4, (0, 0)), (0, 3, (1,)), (1, 4, (2, 0))])

    def test_it_looks_at_what_its_use_looks_at(self):
        paper = (("all", (("behind", "b", ("use", 1)), ("use", 1), ("carry", ("use", 1)))), A)
        self.assert_earned(paper, ["bw", "ac", "ar", "br", "ar"], [(4, 3, (0, 0, 0)), (2, 3, (1, 0)), (1, 3, (2, 0, 0))])

    def test_the_first_scheme_alone_marks(self):
        self.assert_earned((A, B, C), ["br", "cr"], [])
        self.assert_earned((A, B, ("use", 3), C), ["ar", "br", "cr"], [(0, 3, ())])


class WithinTest(ReadingTest):

    def test_five_deep(self):
        paper = (("best", (C, ("carry", ("half", ("all", (A, B)))))),)
        self.assert_earned(paper, ["dw", "ac", "cr", "bc"], [(1, 3, (1, 0, 0, 0)), (3, 1, (1, 0, 0, 1))])
        self.assert_earned(paper, ["dw", "cr", "ac"], [(1, 2, (0,))])
        self.assert_earned(paper, ["br", "ar", "cr"], [(1, 3, (1, 0, 0, 0)), (0, 1, (1, 0, 0, 1))])
        paper = (("end", "h", 9, ("behind", "d", ("seen", "c", ("most", 2, A)))),)
        self.assert_earned(paper, ["cw", "ar", "dr", "ar"], [(3, 2, (0, 0, 0, 0))])
        self.assert_earned(paper, ["ar", "dr", "ar"], [])

    def test_a_best_of_cut_rows(self):
        paper = (("best", (("most", 4, B), ("half", ("all", (B, A, C))), ("end", "c", 5, A))),)
        self.assert_earned(paper, ["ar", "br", "cr"], [(1, 5, (1, 0, 0))])
        self.assert_earned(paper, ["ar", "br"], [(1, 4, (0, 0))])
        self.assert_earned(paper, ["ar", "cr"], [(1, 5, (2,))])
        self.assert_earned(paper, ["cr", "ar"], [(1, 3, (2, 0))])

    def test_a_cut_row_keeps_its_place_and_where(self):
        paper = (("most", 6, ("all", (("half", B), ("behind", "b", ("use", 1))))), ("all", (A, C)))
        rows = [(1, 2, (0, 0, 0)), (3, 3, (0, 1, 0, 0, 0)), (2, 1, (0, 1, 0, 0, 1))]
        self.assert_earned(paper, ["ar", "br", "cr", "ar"], rows)

    def test_a_paper_of_seven_steps_and_ends_and_three_seens_and_behinds(self):
        roads = ("end", "d", 9, ("all", (A, ("behind", "a", B), ("seen", "c", ("use", 2)))))
        paper = (("best", (("use", 1), ("half", ("all", (A, B))), ("carry", ("seen", "h", C)))), roads, ("step", "e", 9))
        self.assert_earned(paper, ["er", "ar", "br", "cw"], [
            (1, 3, (0, 0, 0, 0)), (2, 5, (0, 0, 0, 1, 0)), (0, 9, (0, 0, 0, 2, 0, 0)),
        ])
        self.assert_earned(paper, ["er", "ar", "br", "dr"], [(3, 9, (0, 0))])
        self.assert_earned(paper, ["br", "ar", "dw"], [(1, 3, (1, 0, 0)), (0, 1, (1, 0, 1))])
        self.assert_earned(paper, ["hw", "cc"], [(1, 2, (2, 0, 0))])


class LawsTest(unittest.TestCase):
    """What the sorts of schemes make of others, for many schemes and all works of two words and three steps."""

    SCHEMES = (
        A, B, ("all", (A, B)), ("best", (A, B)), ("behind", "a", B), ("carry", A), ("seen", "b", A), ("end", "b", 9, A),
        ("carry", ("behind", "b", A)), ("half", ("all", (B, A))), ("most", 4, ("all", (A, B))),
        ("end", "a", 2, ("behind", "a", B)), ("carry", ("end", "a", 2, ("seen", "b", A))),
    )
    WORKS = all_works("ab", 3)

    def told(self, scheme, others=()):
        """The rows of a scheme for each work, each with the numbers of `where` behind the first alone."""
        paper = (scheme,) + others
        return [[(place, points, where[1:]) for place, points, where in earned(paper, work)] for work in self.WORKS]

    def alone(self, scheme):
        return [earned((scheme,), work) for work in self.WORKS]

    def points(self, scheme):
        return [marked((scheme,), work) for work in self.WORKS]

    def test_a_mark_is_the_sum_of_the_points(self):
        for scheme in self.SCHEMES:
            sums = [sum(row[1] for row in rows) for rows in self.alone(scheme)]
            self.assertEqual(self.points(scheme), sums)
            self.assertTrue(all(row[1] > 0 for rows in self.alone(scheme) for row in rows))

    def test_one_within_and_a_use_tell_the_same_rows(self):
        for scheme in self.SCHEMES:
            for outer in (("all", (scheme,)), ("best", (scheme,)), ("most", 30, scheme)):
                self.assertEqual(self.told(outer), self.alone(scheme))
            self.assertEqual(self.told(("use", 1), (scheme,)), self.alone(scheme))

    def test_an_all_tells_the_rows_of_one_behind_those_of_the_other(self):
        for one in self.SCHEMES:
            for other in self.SCHEMES:
                rows = [first + second for first, second in zip(self.alone(one), self.alone(other))]
                self.assertEqual(self.told(("all", (one, other))), rows)

    def test_a_best_tells_the_rows_of_the_better_one(self):
        for one in self.SCHEMES:
            for other in self.SCHEMES:
                paper = (("best", (one, other)),)
                for work in self.WORKS:
                    ones, others = marked((one,), work), marked((other,), work)
                    better = 1 if others > ones else 0
                    rows = earned(((one, other)[better],), work)
                    moved = [(place, points, (better,) + where) for place, points, where in rows]
                    self.assertEqual(earned(paper, work), moved)

    def test_a_most_and_a_half_tell_so_many_points(self):
        for scheme in self.SCHEMES:
            self.assertEqual(self.points(("half", scheme)), [points // 2 for points in self.points(scheme)])
            for number in range(10):
                cut = [min(points, number) for points in self.points(scheme)]
                self.assertEqual(self.points(("most", number, scheme)), cut)
