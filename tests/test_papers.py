"""Points 3 and 4: which papers can be, and where the first scheme that can't be is told to stand."""

import unittest

from tests.helpers import FOUR, OTHERS, STEP, TWO, assert_bad_paper, assert_paper, nested

ONE_OF_EACH = (
    STEP, ("all", (STEP,)), ("best", (STEP,)), ("most", 5, STEP), ("half", STEP), ("seen", "a", STEP),
    ("behind", "a", STEP), ("carry", STEP), ("end", "a", 5, STEP), ("use", 1),
)
NO_WORDS = ("i", "A", "ab", "abc", "a ", " a", ("a",)) + OTHERS
NO_NUMBERS = ("1", (1,), [1], "", "a", True, False, None, -1)


def with_part(scheme, at, part):
    """The scheme with another part behind its name."""
    return scheme[:at] + (part,) + scheme[at + 1:]


class SchemeTest(unittest.TestCase):
    """What a scheme is, but for the schemes within it."""

    def assert_bad(self, thing):
        """A thing is refused as a whole scheme, within another one, and in a scheme that is not used."""
        assert_bad_paper(self, (thing, STEP), 0, ())
        assert_bad_paper(self, (("all", (STEP, ("half", thing), STEP)), STEP), 0, (1, 0))
        assert_bad_paper(self, (STEP, ("most", 2, ("carry", thing)), STEP), 1, (0, 0))

    def test_each_of_the_ten_sorts_can_be(self):
        for scheme in ONE_OF_EACH:
            assert_paper(self, (scheme, STEP))

    def test_what_is_no_tuple_or_has_no_such_name_is_refused(self):
        for thing in OTHERS + ("step", 1, 0, [*STEP], ["half", STEP]):
            self.assert_bad(thing)
        for scheme in ONE_OF_EACH:
            for name in ("Step", "steps", " all", "none", "", True, None, 1, 0, ("step",), ["step"], ([],), "a", "st"):
                self.assert_bad((name,) + scheme[1:])
            self.assert_bad(list(scheme))

    def test_a_wrong_length_is_refused(self):
        for scheme in ONE_OF_EACH:
            self.assert_bad(scheme[:-1])
            self.assert_bad(scheme[:1])
            for more in (STEP, 1, "a", None, (), (STEP,)):
                self.assert_bad(scheme + (more,))

    def test_a_wrong_word_is_refused(self):
        for scheme in ONE_OF_EACH:
            if scheme[0] in ("step", "seen", "behind", "end"):
                for word in NO_WORDS:
                    self.assert_bad(with_part(scheme, 1, word))
                for word in "abcdefgh":
                    assert_paper(self, (with_part(scheme, 1, word),))

    def test_points_are_from_one_to_nine(self):
        for scheme in (STEP, ("end", "a", 5, STEP)):
            for points in range(1, 10):
                assert_paper(self, (with_part(scheme, 2, points),))
            for points in (0, 10, 100) + NO_NUMBERS:
                self.assert_bad(with_part(scheme, 2, points))

    def test_a_most_is_from_naught_to_thirty(self):
        for number in range(31):
            assert_paper(self, (("most", number, STEP),))
        for number in (31, 300) + NO_NUMBERS:
            self.assert_bad(("most", number, STEP))

    def test_an_all_or_a_best_has_one_to_four_schemes_in_a_tuple(self):
        for name in ("all", "best"):
            for many in range(1, 5):
                assert_paper(self, ((name, (STEP,) * many),))
            self.assert_bad((name, ()))
            self.assert_bad((name, (STEP,) * 5))
            self.assert_bad((name, (None,) * 5))
            for schemes in ([STEP], [], "a", "", STEP[0], 1, 0, True, False, None):
                self.assert_bad((name, schemes))

    def test_a_scheme_for_schemes_is_refused_within(self):
        for name in ("all", "best"):
            assert_bad_paper(self, ((name, STEP),), 0, (0,))
            assert_bad_paper(self, ((name, (STEP, STEP, None, 1)),), 0, (2,))

    def test_what_is_no_scheme_within_is_refused_at_its_own_place(self):
        for scheme in ONE_OF_EACH:
            if scheme[0] in ("most", "half", "seen", "behind", "carry", "end"):
                for thing in OTHERS + (list(STEP), "a", 1, (STEP,)):
                    assert_bad_paper(self, (STEP, scheme[:-1] + (thing,)), 1, (0,))


class UseTest(unittest.TestCase):

    def test_a_use_is_of_any_later_scheme(self):
        for number in range(1, 5):
            assert_paper(self, (("use", number),) + (STEP,) * 4)
        for at in range(4):
            assert_paper(self, (STEP,) * at + (("use", 4),) + (STEP,) * (4 - at))

    def test_the_same_scheme_an_earlier_one_and_none_are_refused(self):
        for number in (0, -1, -5, 1, 2, 3, 5, 6, 30, "4", True, False, None, [4], (4,), "", "a"):
            assert_bad_paper(self, (STEP, STEP, STEP, ("use", number), STEP), 3, ())
            assert_bad_paper(self, (STEP, STEP, STEP, ("half", ("use", number)), STEP), 3, (0,))

    def test_the_last_scheme_uses_none(self):
        for number in range(-1, 3):
            assert_bad_paper(self, (("use", number),), 0, ())
            assert_bad_paper(self, (STEP, ("use", number)), 1, ())

    def test_true_is_not_the_number_of_scheme_one(self):
        assert_paper(self, (("use", 1), STEP))
        assert_bad_paper(self, (("use", True), STEP), 0, ())


class PlaceTest(unittest.TestCase):

    def test_a_place_has_at_most_four_numbers(self):
        for name in ("half", "carry"):
            assert_paper(self, (nested(name, 4, STEP),))
            assert_paper(self, (STEP, nested(name, 4, STEP)))
            assert_bad_paper(self, (nested(name, 5, STEP),), 0, (0, 0, 0, 0, 0))
            assert_bad_paper(self, (STEP, nested(name, 5, STEP)), 1, (0, 0, 0, 0, 0))
            assert_bad_paper(self, (nested(name, 50, STEP),), 0, (0, 0, 0, 0, 0))
        assert_bad_paper(self, (nested("half", 5, None),), 0, (0, 0, 0, 0, 0))

    def test_a_place_tells_the_numbers_of_the_schemes_within(self):
        for at in range(4):
            schemes = (STEP,) * at + (nested("half", 4, STEP),) + (STEP,) * (3 - at)
            assert_bad_paper(self, (("best", schemes),), 0, (at, 0, 0, 0, 0))
        deep = ("all", (STEP, ("best", (STEP, STEP, ("end", "b", 1, ("all", (STEP, None)))))))
        assert_bad_paper(self, (deep,), 0, (1, 2, 0, 1))

    def test_a_place_is_not_counted_through_uses(self):
        assert_paper(self, (nested("half", 4, ("use", 1)), nested("carry", 4, ("use", 2)), STEP))

    def test_a_place_of_five_numbers_behind_a_use_is_refused_where_it_stands(self):
        assert_bad_paper(self, (("use", 1), nested("half", 5, STEP)), 1, (0, 0, 0, 0, 0))


class ManySchemesTest(unittest.TestCase):

    TWELVE = ("all", (nested("half", 2, STEP),) * 3 + (nested("half", 1, STEP),))
    THIRTEEN = ("all", (nested("half", 2, STEP),) * 4)

    def test_one_of_the_paper_has_at_most_twelve_schemes(self):
        assert_paper(self, (self.TWELVE,))
        assert_paper(self, (STEP, self.TWELVE))
        assert_bad_paper(self, (self.THIRTEEN,), 0, (3, 0, 0))
        assert_bad_paper(self, (STEP, STEP, self.THIRTEEN), 2, (3, 0, 0))

    def test_each_is_counted_by_itself(self):
        assert_paper(self, (STEP,) + (self.TWELVE,) * 4)
        assert_paper(self, (("half", ("half", ("use", 1))), self.TWELVE))

    def test_a_use_counts_as_one(self):
        assert_paper(self, (("all", (nested("half", 2, ("use", 1)),) * 3 + (("half", ("use", 1)),)), STEP))
        assert_bad_paper(self, (("all", (nested("half", 2, ("use", 1)),) * 4), STEP), 0, (3, 0, 0))

    def test_the_thirteenth_is_counted_ahead_of_what_is_within(self):
        wide = ("all", (FOUR, FOUR, STEP, STEP))
        assert_bad_paper(self, (wide,), 0, (3,))
        assert_bad_paper(self, (("all", (FOUR, FOUR, ("all", (STEP, None)), STEP)),), 0, (2, 0))
        assert_bad_paper(self, (("all", (STEP, STEP, FOUR, FOUR)),), 0, (3, 3))

    def test_the_thirteenth_is_refused_whatever_it_is(self):
        for thing in OTHERS + (STEP, ("half", None)):
            assert_bad_paper(self, (("all", (FOUR, FOUR, STEP, thing)),), 0, (3,))


class PaperTest(unittest.TestCase):

    def test_one_to_five_schemes_can_be(self):
        for many in range(1, 6):
            assert_paper(self, (STEP,) * many)

    def test_what_is_no_tuple_or_an_empty_one_is_refused_at_the_first_place(self):
        for thing in ((), [], [STEP], list(ONE_OF_EACH), "", "step", 0, 1, 5, True, False, None):
            assert_bad_paper(self, thing, 0, ())

    def test_a_scheme_for_a_paper_is_refused_at_its_name(self):
        assert_bad_paper(self, STEP, 0, ())

    def test_a_sixth_is_refused(self):
        assert_bad_paper(self, (STEP,) * 6, 5, ())
        assert_bad_paper(self, (STEP,) * 9, 5, ())
        for thing in OTHERS:
            assert_bad_paper(self, (STEP,) * 5 + (thing,), 5, ())
        assert_bad_paper(self, (STEP,) * 5 + (("half", None),), 5, ())

    def test_each_of_the_five_is_looked_at(self):
        for number in range(5):
            schemes = [STEP] * 5
            schemes[number] = ("best", (STEP, ("step", "i", 1)))
            assert_bad_paper(self, tuple(schemes), number, (1,))


class OrderTest(unittest.TestCase):
    """Of several things that can't be, the first in the document's order."""

    def test_a_lesser_scheme_comes_first_with_all_that_is_within_it(self):
        assert_bad_paper(self, (nested("half", 4, None), None), 0, (0, 0, 0, 0))
        assert_bad_paper(self, (STEP, ("half", None), None, None), 1, (0,))
        assert_bad_paper(self, (nested("half", 5, STEP), None), 0, (0, 0, 0, 0, 0))
        assert_bad_paper(self, (ManySchemesTest.THIRTEEN, None), 0, (3, 0, 0))
        assert_bad_paper(self, (None, nested("half", 5, STEP)), 0, ())
        assert_bad_paper(self, (None, ManySchemesTest.THIRTEEN), 0, ())

    def test_a_scheme_comes_ahead_of_what_is_within_it(self):
        assert_bad_paper(self, (("most", 31, None),), 0, ())
        assert_bad_paper(self, (("half", ("end", "a", 0, None)),), 0, (0,))
        assert_bad_paper(self, (("all", (None, None, None, None, None)),), 0, ())
        assert_bad_paper(self, (("half", None, None),), 0, ())

    def test_what_is_within_comes_ahead_of_what_stands_behind(self):
        assert_bad_paper(self, (("all", (STEP, ("half", ("half", None)), None)),), 0, (1, 0, 0))
        assert_bad_paper(self, (("best", (("all", (STEP, None)), None)),), 0, (0, 1))
        assert_bad_paper(self, (("all", (nested("carry", 4, STEP), None)),), 0, (0, 0, 0, 0, 0))
        assert_bad_paper(self, (("all", (FOUR, FOUR, ("half", STEP), None)),), 0, (2, 0))

    def test_what_can_not_be_comes_ahead_of_a_place_or_a_thirteenth_behind_it(self):
        assert_bad_paper(self, (("all", (None, nested("half", 4, STEP))),), 0, (0,))
        assert_bad_paper(self, (("all", (FOUR, ("all", (STEP, STEP, STEP, None)), STEP, STEP)),), 0, (1, 3))

    def test_the_five_come_ahead_of_a_sixth(self):
        assert_bad_paper(self, (STEP, STEP, STEP, STEP, ("half", None), STEP), 4, (0,))
        assert_bad_paper(self, (STEP, None, STEP, STEP, STEP, None), 1, ())

    def test_all_comes_ahead_of_too_many_that_are_used(self):
        eight = ("all", (FOUR, FOUR))
        assert_bad_paper(self, (eight, STEP), 2, ())
        assert_bad_paper(self, (eight, ("half", None)), 1, (0,))
        assert_bad_paper(self, (eight, STEP, STEP, ManySchemesTest.THIRTEEN), 3, (3, 0, 0))
        assert_bad_paper(self, (eight, STEP, STEP, STEP, STEP, STEP), 5, ())


class StepsAndEndsTest(unittest.TestCase):

    def test_the_first_scheme_has_at_most_seven(self):
        seven = ("all", (FOUR, STEP, STEP, STEP))
        assert_paper(self, (seven,))
        assert_bad_paper(self, (("best", (FOUR, FOUR)),), 1, ())

    def test_ends_count_with_what_is_within_them(self):
        for many, steps in ((1, 7), (2, 8)):
            scheme = ("all", (FOUR, STEP) + (("end", "a", 1, STEP),) * many)
            if steps > 7:
                assert_bad_paper(self, (scheme, STEP, STEP), 3, ())
            else:
                assert_paper(self, (scheme, STEP, STEP))

    def test_the_refusal_tells_how_many_schemes_the_paper_has(self):
        for many in range(1, 6):
            assert_bad_paper(self, (("all", (FOUR, FOUR)),) + (STEP,) * (many - 1), many, ())

    def test_they_count_as_often_as_they_are_used(self):
        uses = ("use", 1)
        assert_paper(self, (("all", (uses, uses, uses, STEP)), TWO))
        assert_bad_paper(self, (("all", (uses, uses, uses, uses)), TWO), 2, ())
        assert_bad_paper(self, (("all", (uses, uses, uses, TWO)), TWO), 2, ())

    def test_uses_of_uses_count(self):
        paper = (("all", (("use", 1), STEP)), ("all", (("use", 2), ("use", 2))), ("all", (("use", 3), STEP)), TWO)
        assert_paper(self, paper)
        assert_bad_paper(self, (("all", (("use", 1), TWO)),) + paper[1:], 4, ())

    def test_only_the_first_scheme_with_what_it_uses_counts(self):
        eight = ("all", (FOUR, FOUR))
        assert_paper(self, (STEP, eight, eight))
        assert_paper(self, (("use", 2), eight, STEP))
        assert_paper(self, (("use", 2), ("use", 3), STEP, eight))
        assert_bad_paper(self, (("use", 1), ("use", 2), eight), 3, ())

    def test_uses_that_grow_and_grow_are_refused(self):
        grown = ("all", (FOUR, FOUR, STEP))
        uses = [("all", (("all", (("use", at),) * 4),) * 2 + (("use", at),)) for at in range(1, 5)]
        assert_bad_paper(self, tuple(uses) + (grown,), 5, ())
        assert_bad_paper(self, tuple(uses) + (STEP,), 5, ())


class SeensAndBehindsTest(unittest.TestCase):

    def test_the_first_scheme_has_at_most_three(self):
        for names in (("seen",) * 4, ("behind",) * 4, ("seen", "behind", "seen", "behind")):
            scheme = STEP
            for at, name in enumerate(names):
                scheme = (name, "a", scheme)
                if at < 3:
                    assert_paper(self, (scheme,))
            assert_bad_paper(self, (scheme,), 1, ())

    def test_they_count_side_by_side(self):
        seen, behind = ("seen", "b", STEP), ("behind", "b", STEP)
        assert_paper(self, (("all", (seen, behind, seen)),))
        assert_bad_paper(self, (("all", (seen, behind, seen, behind)), STEP), 2, ())

    def test_they_count_as_often_as_they_are_used(self):
        seen = ("seen", "b", STEP)
        assert_paper(self, (("all", (("use", 1),) * 3), seen))
        assert_bad_paper(self, (("all", (("use", 1),) * 4), seen), 2, ())
        assert_bad_paper(self, (("all", (("use", 1),) * 2), ("behind", "b", seen)), 2, ())
        assert_bad_paper(self, (("behind", "a", ("use", 1)), ("use", 2), ("behind", "b", ("seen", "c", seen))), 3, ())

    def test_only_the_first_scheme_with_what_it_uses_counts(self):
        four = nested_seens(4)
        assert_paper(self, (STEP, four))
        assert_paper(self, (("all", (nested_seens(3), ("use", 2))), four, STEP))

    def test_steps_and_seens_are_counted_apart(self):
        three = (("seen", "a", ("behind", "b", STEP)), ("seen", "c", STEP), ("use", 1))
        assert_paper(self, (("all", three + (STEP,)), FOUR))
        assert_bad_paper(self, (("all", three + (TWO,)), FOUR), 2, ())
        assert_bad_paper(self, (("all", three + (("seen", "d", STEP),)), FOUR), 2, ())


def nested_seens(many):
    """A step in so many seens."""
    return STEP if many == 0 else ("seen", "a", nested_seens(many - 1))
