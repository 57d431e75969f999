"""Point 2: words, steps, works, and how works come ahead of each other."""

import unittest

from markscript.reading import earned, marked
from markscript.works import work_order
from tests.helpers import OTHERS, PAPER, assert_bad_work

WORDS = "abcdefgh"
NO_STEPS = (
    "a", "r", "ra", "ir", "Ar", "ax", "aR", "arr", "aar", "abr", " ar", "ar ", "a r", "a1", "  ", "\n", "ar\n", "ar bw",
    0, 1, ("a", "r"), ["a", "r"], ["ar"], ("ar",),
) + OTHERS


class StepsTest(unittest.TestCase):

    def test_each_word_may_be_right_or_wrong_or_carried_on(self):
        for word in WORDS:
            for way in "rwc":
                self.assertEqual(marked(PAPER, ["hw", word + way]), 1 if word + way == "ar" else 0)

    def test_what_is_no_step_is_refused_where_it_stands(self):
        for thing in NO_STEPS:
            assert_bad_work(self, [thing], 0)
            assert_bad_work(self, ["aw", "bc", thing], 2)
            assert_bad_work(self, ["ar", thing, "br"], 1)

    def test_the_first_of_several_is_refused(self):
        assert_bad_work(self, ["ar", "zz", None, "bc"], 1)
        assert_bad_work(self, ["ar", "bc", "zz"], 1)
        assert_bad_work(self, ["zz", "bc"], 0)


class WorksTest(unittest.TestCase):

    def test_what_is_no_list_is_refused_at_its_first_step(self):
        for thing in ((), ("ar",), "", "ar", "arbw", 0, 1, 12, -1, True, False, None):
            assert_bad_work(self, thing, 0)

    def test_a_work_may_be_empty(self):
        self.assertEqual(earned(PAPER, []), [])
        self.assertEqual(marked(PAPER, []), 0)

    def test_a_work_has_at_most_twelve_steps(self):
        self.assertEqual(earned(PAPER, ["br"] * 11 + ["ar"]), [(11, 1, ())])
        assert_bad_work(self, ["br"] * 13, 12)
        assert_bad_work(self, ["br"] * 20, 12)
        assert_bad_work(self, ["br"] * 12 + ["zz"], 12)
        assert_bad_work(self, ["br"] * 12 + ["ac"], 12)
        assert_bad_work(self, ["br"] * 12 + [None, None], 12)

    def test_a_step_that_can_not_be_comes_ahead_of_the_thirteenth(self):
        assert_bad_work(self, ["br"] * 5 + ["zz"] + ["br"] * 8, 5)
        assert_bad_work(self, ["br"] * 11 + ["bc", "br"], 11)


class CarriedTest(unittest.TestCase):

    def test_a_carried_step_without_a_wrong_one_ahead_is_refused(self):
        assert_bad_work(self, ["ac"], 0)
        assert_bad_work(self, ["ac", "aw"], 0)
        assert_bad_work(self, ["ar", "br", "bc"], 2)
        assert_bad_work(self, ["ar", "ac", "aw", "ac"], 1)

    def test_the_wrong_step_may_be_of_another_word_and_anywhere_ahead(self):
        for work in (["aw", "ac"], ["bw", "ac"], ["hw", "ar", "br", "ac"], ["bw", "ac", "ac", "hc"]):
            self.assertEqual(marked((("carry", ("step", "a", 9)),), work), 9)
        self.assertEqual(marked((("carry", ("step", "h", 9)),), ["aw"] + ["br"] * 10 + ["hc"]), 9)


class OrderTest(unittest.TestCase):

    def test_fewer_steps_come_first_and_of_as_many_the_lesser_texts(self):
        rising = [
            [], ["ar"], ["aw"], ["br"], ["hw"], ["ar", "ar"], ["ar", "hw"], ["aw", "ac"], ["aw", "ar"], ["br", "ar"],
            ["ar", "ar", "ar"],
        ]
        self.assertEqual(sorted(rising[::-1], key=work_order), rising)
        for one, other in zip(rising, rising[1:]):
            self.assertLess(work_order(one), work_order(other))

    def test_the_same_works_come_alike(self):
        self.assertEqual(work_order(["aw", "bc"]), work_order(["aw", "bc"]))

    def test_a_work_is_neither_changed_nor_kept(self):
        work = ["aw", "bc"]
        key = work_order(work)
        self.assertEqual(work, ["aw", "bc"])
        work.append("ar")
        self.assertEqual(key, work_order(["aw", "bc"]))
