"""Point 2: words, steps, works, and how works come ahead of each other."""

import unittest

from markscript.deciding import span
from markscript.reading import earned, marked
from tests.helpers import OTHERS, PAPER, assert_bad_work

WORDS = "abcdefgh"
NO_STEPS = (
    "a", "r", "ra", "ir", "Ar", "ax", "aR", "arr", "aar", "abr", " ar", "ar ", "a r", "a1", "  ", "\n", "ar\n", "ar bw",
    0, 1, ("a", "r"), ["a", "r"], ["ar"], ("ar",),
) + OTHERS


class StepsTest(unittest.TestCase):

    def test_each_word_may_be_right_or_wrong_or_carried_on(self):
        for word in WORDS:
            for way in "rwc":
                self.assertEqual(marked(PAPER, ["hw", word + way]), 1 if word + way == "ar" else 0)

    def test_what_is_no_step_is_refused_where_it_stands(self):
        for thing in NO_STEPS:
            assert_bad_work(self, [thing], 0)
            assert_bad_work(self, ["aw", "bc", thing], 2)
            assert_bad_work(self, ["ar", thing, "br"], 1)

    def test_the_first_of_several_is_refused(self):
        assert_bad_work(self, ["ar", "zz", None, "bc"], 1)
        assert_bad_work(self, ["ar", "bc", "zz"], 1)
        assert_bad_work(self, ["zz", "bc"], 0)


class WorksTest(unittest.TestCase):

    def test_what_is_no_list_is_refused_at_its_first_step(self):
        for thing in ((), ("ar",), "", "ar", "arbw", 0, 1, 12, -1, True, False, None):
            assert_bad_work(self, thing, 0)

    def test_a_work_may_be_empty(self):
        self.assertEqual(earned(PAPER, []), [])
        self.assertEqual(marked(PAPER, []), 0)

    def test_a_work_has_at_most_twelve_steps(self):
        self.assertEqual(earned(PAPER, ["br"] * 11 + ["ar"]), [(11, 1, ())])
        assert_bad_work(self, ["br"] * 13, 12)
        assert_bad_work(self, ["br"] * 20, 12)
        assert_bad_work(self, ["br"] * 12 + ["zz"], 12)
        assert_bad_work(self, ["br"] * 12 + ["ac"], 12)
        assert_bad_work(self, ["br"] * 12 + [None, None], 12)

    def test_a_step_that_can_not_be_comes_ahead_of_the_thirteenth(self):
        assert_bad_work(self, ["br"] * 5 + ["zz"] + ["br"] * 8, 5)
        assert_bad_work(self, ["br"] * 11 + ["bc", "br"], 11)


class CarriedTest(unittest.TestCase):

    def test_a_carried_step_without_a_wrong_one_ahead_is_refused(self):
        assert_bad_work(self, ["ac"], 0)
        assert_bad_work(self, ["ac", "aw"], 0)
        assert_bad_work(self, ["ar", "br", "bc"], 2)
        assert_bad_work(self, ["ar", "ac", "aw", "ac"], 1)

    def test_the_wrong_step_may_be_of_another_word_and_anywhere_ahead(self):
        for work in (["aw", "ac"], ["bw", "ac"], ["hw", "ar", "br", "ac"], ["bw", "ac", "ac", "hc"]):
            self.assertEqual(marked((("carry", ("step", "a", 9)),), work), 9)
        self.assertEqual(marked((("carry", ("step", "h", 9)),), ["aw"] + ["br"] * 10 + ["hc"]), 9)


class OrderTest(unittest.TestCase):
    """Of the works that lead to the most points the least one is told."""

    def assert_least(self, scheme, work, ahead=()):
        least, fewest, most, steps = span((scheme,), list(ahead))
        self.assertEqual(steps, work)
        self.assertEqual(marked((scheme,), list(ahead) + steps), most)

    def test_fewer_steps_come_first(self):
        self.assert_least(("best", (("behind", "a", ("step", "a", 1)), ("step", "h", 1))), ["hr"])
        self.assert_least(("best", (("behind", "a", ("behind", "a", ("step", "a", 2))), ("seen", "h", ("step", "g", 2)))),
                          ["gr", "hr"])

    def test_of_as_many_the_lesser_texts_come_first(self):
        self.assert_least(("best", (("step", "h", 1), ("step", "b", 1), ("step", "c", 1))), ["br"])
        self.assert_least(("all", (("step", "c", 1), ("step", "a", 1), ("step", "b", 1))), ["ar", "br", "cr"])
        self.assert_least(("best", (("behind", "b", ("step", "a", 1)), ("behind", "a", ("step", "h", 1)))), ["ar", "hr"])

    def test_a_carried_step_comes_ahead_of_a_right_one_and_that_ahead_of_a_wrong_one(self):
        self.assert_least(("carry", ("step", "a", 1)), ["ac"], ["hw"])
        self.assert_least(("step", "a", 1), ["ar"], ["hw"])
        self.assert_least(("seen", "a", ("step", "b", 1)), ["ar", "br"])
        self.assert_least(("seen", "a", ("step", "b", 1)), ["ac", "br"], ["hw"])
        self.assert_least(("carry", ("behind", "b", ("step", "a", 1))), ["br", "ar"])
