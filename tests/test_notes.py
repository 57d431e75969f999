"""Point 10: papers and works as texts."""

import unittest

from markscript.errors import BadPaper, BadText, BadWork
from markscript.notes import read, read_work, written, written_work
from tests.helpers import OTHERS, assert_bad_paper, assert_bad_work, nested, refusal, steps_of
from tests.samples import ALIKE, A, B, C, LARGE, PAPERS

# Each sort of scheme, and the words that it is written as.
WRITTEN = (
    (("step", "a", 3), "step a 3"),
    (("step", "h", 9), "step h 9"),
    (("all", (A,)), "all 1 step a 3"),
    (("all", (A, B, C, A)), "all 4 step a 3 step b 5 step c 2 step a 3"),
    (("best", (A, B)), "best 2 step a 3 step b 5"),
    (("most", 0, A), "most 0 step a 3"),
    (("most", 30, A), "most 30 step a 3"),
    (("half", A), "half step a 3"),
    (("seen", "b", A), "seen b step a 3"),
    (("behind", "c", A), "behind c step a 3"),
    (("carry", A), "carry step a 3"),
    (("end", "d", 7, A), "end d 7 step a 3"),
    (("use", 1), "use 1"),
    (("all", (("best", (A, ("use", 1))), ("half", B))), "all 2 best 2 step a 3 use 1 half step b 5"),
    (
        ("end", "c", 4, ("all", (("carry", ("end", "a", 2, B)), ("seen", "h", ("most", 12, C))))),
        "end c 4 all 2 carry end a 2 step b 5 seen h most 12 step c 2",
    ),
)


class WrittenTest(unittest.TestCase):

    def test_each_sort_of_scheme(self):
        for scheme, text in WRITTEN:
            self.assertEqual(written((scheme, A)), text + "\nstep a 3")

    def test_one_row_for_each_scheme(self):
        self.assertEqual(written((A,)), "step a 3")
        self.assertEqual(written((A, B, C, A, B)), "step a 3\nstep b 5\nstep c 2\nstep a 3\nstep b 5")

    def test_a_paper_that_can_not_be_is_refused(self):
        assert_bad_paper(self, (), 0, ())
        assert_bad_paper(self, (A, ("most", 31, A)), 1, ())
        assert_bad_paper(self, nested("half", 2, A), 0, ())


class ReadTest(unittest.TestCase):

    def assert_bad_text(self, text, place):
        """A text is refused at a place."""
        for turn in range(2):
            refused = refusal(lambda: read(text))
            self.assertIs(refused.__class__, BadText, text)
            self.assertEqual((refused.place, refused.place.__class__), (place, int), text)

    def assert_bad_paper_read(self, text, scheme, place):
        """A text can be read, but what it tells is no paper."""
        refused = refusal(lambda: read(text))
        self.assertIs(refused.__class__, BadPaper, text)
        self.assertEqual((refused.scheme, refused.place), (scheme, place), text)

    def test_each_sort_of_scheme(self):
        for scheme, text in WRITTEN:
            self.assertEqual(read(text + "\nstep a 3"), (scheme, A))

    def test_what_was_written_is_read_again(self):
        for paper in PAPERS + LARGE + tuple(paper for papers in ALIKE for paper in papers):
            text = written(paper)
            self.assertEqual(read(text), paper)
            self.assertEqual(written(read(text)), text)

    def test_numbers_are_read_as_whole_numbers_and_schemes_as_tuples(self):
        paper = read("all 1 most 12 end a 9 use 1\nstep b 1")
        self.assertEqual(paper, (("all", (("most", 12, ("end", "a", 9, ("use", 1))),)), ("step", "b", 1)))
        most = paper[0][1][0]
        self.assertEqual([part.__class__ for part in (paper, paper[0][1], most)], [tuple] * 3)
        self.assertEqual([part.__class__ for part in (most[1], most[2][2], most[2][3][1], paper[1][2])], [int] * 4)

    def test_the_first_word_of_a_row_is_a_name(self):
        for word in ("a", "1", "steps", "Step", "ste", "stepa", "STEP", "any", "-", "none", "~", "step,"):
            self.assert_bad_text(word, 0)
            self.assert_bad_text(word + " a 3", 0)
            self.assert_bad_text("step a 3\n" + word + " a 3", 3)
            self.assert_bad_text("half " + word, 1)
            self.assert_bad_text("all 2 step a 3 " + word, 5)

    def test_a_word_that_can_not_be(self):
        for word in ("i", "A", "ab", "1", "step", "a,", "'a'", "~", "aa"):
            for text in ("step {} 3", "seen {} step a 3", "behind {} step a 3", "end {} 3 step a 3"):
                self.assert_bad_text(text.format(word), 1)
                self.assert_bad_text("step a 3\nmost 3 " + text.format(word), 6)

    def test_a_number_that_can_not_be(self):
        figures = ("00", "01", "09", "000", "001", "100", "123", "+1", "-1", "-0", "1.", "1.0", "1_0", "0x1", "1a")
        for word in figures + ("a", "one", "~"):
            self.assert_bad_text("step a " + word, 2)
            self.assert_bad_text(f"all {word} step a 3", 1)
            self.assert_bad_text(f"best {word} step a 3", 1)
            self.assert_bad_text(f"most {word} step a 3", 1)
            self.assert_bad_text(f"end a {word} step a 3", 2)
            self.assert_bad_text("use " + word, 1)
            self.assert_bad_text(f"half use 1\nstep b {word}\nzz", 5)

    def test_an_empty_word_can_not_be(self):
        self.assert_bad_text("step  a 3", 1)
        self.assert_bad_text("step a  3", 2)
        self.assert_bad_text(" step a 3", 0)
        self.assert_bad_text("step a 3 ", 3)
        self.assert_bad_text("step a ", 2)
        self.assert_bad_text("step a 3\n step b 5", 3)
        self.assert_bad_text("step a 3 \nstep b 5", 3)
        self.assert_bad_text("step a 3\nstep b 5 ", 6)
        self.assert_bad_text(" ", 0)
        self.assert_bad_text("  ", 0)
        self.assert_bad_text("step a 3\n ", 3)
        self.assert_bad_text("half  step a 3", 1)

    def test_too_few_words_in_a_row(self):
        words = "end a 9 all 2 seen b step c 1 best 1 most 3 step d 4".split(" ")
        for many in range(len(words)):
            self.assert_bad_text(" ".join(words[:many]), many)
            self.assert_bad_text("step a 3\nuse 2\n" + " ".join(words[:many]), 5 + many)
            self.assert_bad_text(" ".join(words[:many]) + "\nstep a 3", many)
        self.assertEqual(read(" ".join(words)), (
            ("end", "a", 9, ("all", (("seen", "b", ("step", "c", 1)), ("best", (("most", 3, ("step", "d", 4)),))))),
        ))
        for text in ("step", "all", "best", "most", "half", "seen", "behind", "carry", "end", "use"):
            self.assert_bad_text(text, 1)

    def test_so_many_schemes_as_are_told_must_come(self):
        self.assert_bad_text("all 2 step a 3", 5)
        self.assert_bad_text("all 1 step a 3 step b 5", 5)
        self.assert_bad_text("best 99 step a 3", 5)
        self.assert_bad_text("all 0 step a 3", 2)
        self.assert_bad_text("all 2 all 2 step a 3 step b 5", 10)

    def test_too_many_words_in_a_row(self):
        for word in ("step", "3", "a", "zz", "-", "use"):
            self.assert_bad_text("step a 3 " + word, 3)
            self.assert_bad_text("use 1 " + word + "\nstep a 3", 2)
            self.assert_bad_text("use 1\nstep a 3 " + word, 5)
            self.assert_bad_text("half carry step a 3 " + word + " 3", 5)

    def test_empty_rows_and_empty_texts(self):
        self.assert_bad_text("", 0)
        self.assert_bad_text("\n", 0)
        self.assert_bad_text("\nstep a 3", 0)
        self.assert_bad_text("step a 3\n", 3)
        self.assert_bad_text("step a 3\n\nstep a 3", 3)
        self.assert_bad_text("use 1\nuse 2\nstep a 3\n", 7)

    def test_places_are_counted_through_all_rows(self):
        rows = ["use 1", "half use 2", "all 1 use 3", "step a 3"]
        for number, place in enumerate((0, 2, 5, 9)):
            self.assert_bad_text("\n".join(rows[:number] + ["zz"] + rows[number:]), place)
            self.assert_bad_text("\n".join(rows[:number] + ["half step a zz"]), place + 3)
        self.assert_bad_text("\n".join(rows) + " 3", 12)
        self.assert_bad_text("\n".join(rows * 3) + "\nzz", 36)

    def test_the_first_of_several_is_told(self):
        self.assert_bad_text("step a\nzz", 2)
        self.assert_bad_text("step i 00", 1)
        self.assert_bad_text("step a 3 zz\nstep a", 3)
        self.assert_bad_text("half\nstep i 3", 1)

    def test_numbers_that_a_paper_can_not_hold_are_refused_behind_the_text(self):
        for number in ("0", "10", "31", "99"):
            self.assert_bad_paper_read("step a " + number, 0, ())
            self.assert_bad_paper_read(f"step a 3\nhalf end a {number} step a 3", 1, (0,))
        for number in ("31", "99"):
            self.assert_bad_paper_read(f"most {number} step a 3", 0, ())
        for number in ("0", "1", "2", "10", "99"):
            self.assert_bad_paper_read(f"step a 3\nuse {number}", 1, ())
        self.assert_bad_paper_read("all 0", 0, ())
        self.assert_bad_paper_read("half best 0", 0, (0,))
        self.assert_bad_paper_read("all 5 " + " ".join(["step a 1"] * 5), 0, ())
        self.assert_bad_paper_read("all 12 " + " ".join(["step a 1"] * 12), 0, ())

    def test_a_bad_text_is_ahead_of_a_bad_paper(self):
        self.assert_bad_text("step a 0\nzz", 3)
        self.assert_bad_text("step a 10 zz", 3)
        self.assert_bad_text("\n".join(["step a 3"] * 6 + ["zz"]), 18)
        self.assert_bad_text("all 0\nall 0\nstep a 00", 6)

    def test_other_papers_that_can_not_be(self):
        self.assert_bad_paper_read("\n".join(["step a 3"] * 6), 5, ())
        self.assert_bad_paper_read("half half half half half step a 3", 0, (0, 0, 0, 0, 0))
        self.assert_bad_paper_read("all 2 all 4" + " step a 3" * 4 + " all 4" + " step a 3" * 4, 1, ())
        self.assert_bad_paper_read("all 4" + " half half step a 3" * 4, 0, (3, 0, 0))

    def test_texts_of_a_thousand_signs(self):
        self.assert_bad_paper_read("half " * 198 + "step a 1", 0, (0, 0, 0, 0, 0))
        self.assert_bad_paper_read("all 1 " * 160 + "step a 1", 0, (0, 0, 0, 0, 0))
        self.assert_bad_text("half " * 200, 200)
        self.assert_bad_text("all 99 " * 142, 284)
        self.assert_bad_text(" " * 1000, 0)
        self.assert_bad_text("\n" * 1000, 0)
        self.assert_bad_text("9" * 1000, 0)
        self.assert_bad_text("step a " + "9" * 990, 2)

    def test_asked_again_the_same_is_told(self):
        text = "use 1\nall 2 step a 3 step b 5"
        self.assertEqual(read(text), read(text))
        self.assertEqual(text, "use 1\nall 2 step a 3 step b 5")


class WorksTest(unittest.TestCase):
    WORKS = (
        [], ["ar"], ["aw", "bc"], ["hr", "hr", "gw", "ac", "bc"], ["ar"] * 12, ["aw"] + ["hc"] * 11,
    )

    def assert_bad_text(self, text, place):
        """A text is refused at a place."""
        refused = refusal(lambda: read_work(text))
        self.assertIs(refused.__class__, BadText, text)
        self.assertEqual((refused.place, refused.place.__class__), (place, int), text)

    def assert_bad_work_read(self, text, number):
        """A text can be read, but what it tells is no work."""
        refused = refusal(lambda: read_work(text))
        self.assertIs(refused.__class__, BadWork, text)
        self.assertEqual(refused.number, number, text)

    def test_a_work_is_written_as_its_steps(self):
        self.assertEqual(written_work([]), "")
        self.assertEqual(written_work(["ar"]), "ar")
        self.assertEqual(written_work(["aw", "bc", "hr"]), "aw bc hr")

    def test_what_was_written_is_read_again(self):
        for work in self.WORKS:
            self.assertEqual(read_work(written_work(work)), work)
        for step in steps_of("abcdefgh"):
            self.assertEqual(read_work("aw " + step), ["aw", step])

    def test_no_steps_are_the_empty_text(self):
        self.assertEqual(read_work(""), [])
        self.assertEqual(written_work(read_work("")), "")

    def test_what_is_told_may_be_changed(self):
        for text in ("", "ar", "aw bc"):
            told = read_work(text)
            self.assertIs(told.__class__, list)
            due = list(told)
            told.append("ar")
            self.assertEqual(read_work(text), due)

    def test_words_that_are_no_steps_are_refused(self):
        for word in ("a", "r", "ra", "ir", "ax", "Ar", "aR", "arr", "ar,", "1", "step", "~~", "-", "ar\n", "ar\nbr"):
            self.assert_bad_text(word, 0)
            self.assert_bad_text("aw " + word, 1)
            self.assert_bad_text("aw bc " + word + " ar", 2)

    def test_empty_words_are_refused(self):
        self.assert_bad_text(" ", 0)
        self.assert_bad_text(" ar", 0)
        self.assert_bad_text("ar ", 1)
        self.assert_bad_text("ar  br", 1)
        self.assert_bad_text("ar br  ", 2)
        self.assert_bad_text("\n", 0)

    def test_the_first_of_several_is_told(self):
        self.assert_bad_text("ar zz yy", 1)

    def test_steps_that_are_no_work_are_refused_behind_the_text(self):
        self.assert_bad_work_read("ac", 0)
        self.assert_bad_work_read("ar bc aw", 1)
        self.assert_bad_work_read(" ".join(["ar"] * 13), 12)
        self.assert_bad_work_read(" ".join(["ar"] * 12 + ["ac"]), 12)
        self.assert_bad_text("ac zz", 1)
        self.assert_bad_text(" ".join(["ar"] * 13 + ["zz"]), 13)

    def test_a_work_that_can_not_be_is_not_written(self):
        assert_bad_work(self, ["ar", "bc"], 1)
        assert_bad_work(self, ["ar"] * 13, 12)
        for thing in [other for other in OTHERS if other != []]:
            assert_bad_work(self, thing, 0)

    def test_a_work_that_is_written_is_not_changed(self):
        work = ["aw", "bc"]
        text = written_work(work)
        self.assertEqual(work, ["aw", "bc"])
        work.clear()
        self.assertEqual(text, "aw bc")
