"""Point 6: the least machine of a paper, and what it tells of works."""

import unittest
from itertools import combinations

from markscript.machines import made, walked
from markscript.papers import words_of
from markscript.reading import marked
from tests.helpers import (
    PAPER, all_works, assert_bad_paper, assert_bad_work, nexts_of, steps_of, walker, went_wrong,
)
from tests.samples import ALIKE, ALIKE_BUT_FOR_WORDS, A, B, C, LARGE, PAPERS

WORDS = "abcdefgh"


def least_works(machine):
    """The states in turn of the least work that leads to each, with these works."""
    nexts = nexts_of(machine)
    works = {0: []}
    waiting = [0]
    for state in waiting:
        for step in steps_of(machine[0] + machine[1]):
            later = nexts.get((state, step))
            if later is not None and later not in works:
                works[later] = works[state] + [step]
                waiting.append(later)
    return works


def alike(machine):
    """The pairs of states that no steps tell apart, nor a step that may come in one of them alone."""
    words, spare, marks, table = machine
    nexts = nexts_of(machine)
    steps = steps_of(words + spare)
    may_come = [tuple((state, step) in nexts for step in steps) for state in range(len(marks))]
    pairs = {
        (one, other) for one, other in combinations(range(len(marks)), 2)
        if marks[one] == marks[other] and may_come[one] == may_come[other]
    }
    many = None
    while many != len(pairs):
        many = len(pairs)
        for one, other in list(pairs):
            for step in steps:
                if (one, step) in nexts:
                    later = tuple(sorted((nexts[(one, step)], nexts[(other, step)])))
                    if later[0] != later[1] and later not in pairs:
                        pairs.discard((one, other))
    return pairs


class MadeByHandTest(unittest.TestCase):
    """Machines that are told by what the document says, table and all."""

    def test_of_a_step(self):
        self.assertEqual(made((A,)), ("a", "b", [0, 3, 0, 3], [
            (0, "ar", 1), (0, "aw", 2), (0, "br", 0), (0, "bw", 2),
            (1, "ar", 1), (1, "aw", 3), (1, "br", 1), (1, "bw", 3),
            (2, "ac", 2), (2, "ar", 3), (2, "aw", 2), (2, "bc", 2), (2, "br", 2), (2, "bw", 2),
            (3, "ac", 3), (3, "ar", 3), (3, "aw", 3), (3, "bc", 3), (3, "br", 3), (3, "bw", 3),
        ]))

    def test_of_a_carried_step(self):
        self.assertEqual(made((("carry", A),)), ("a", "b", [0, 3, 0, 3], [
            (0, "ar", 1), (0, "aw", 2), (0, "br", 0), (0, "bw", 2),
            (1, "ar", 1), (1, "aw", 3), (1, "br", 1), (1, "bw", 3),
            (2, "ac", 3), (2, "ar", 3), (2, "aw", 2), (2, "bc", 2), (2, "br", 2), (2, "bw", 2),
            (3, "ac", 3), (3, "ar", 3), (3, "aw", 3), (3, "bc", 3), (3, "br", 3), (3, "bw", 3),
        ]))

    def test_with_no_need_of_its_word(self):
        table = [
            (0, "ar", 0), (0, "aw", 1), (0, "br", 0), (0, "bw", 1),
            (1, "ac", 1), (1, "ar", 1), (1, "aw", 1), (1, "bc", 1), (1, "br", 1), (1, "bw", 1),
        ]
        self.assertEqual(made((("most", 0, A),)), ("a", "b", [0, 0], table))
        self.assertEqual(made((("half", ("step", "a", 1)), B)), ("a", "b", [0, 0], table))

    def test_the_spare_word_may_be_less_than_the_words(self):
        self.assertEqual(made((("step", "b", 9),)), ("b", "a", [0, 0, 9, 9], [
            (0, "ar", 0), (0, "aw", 1), (0, "br", 2), (0, "bw", 1),
            (1, "ac", 1), (1, "ar", 1), (1, "aw", 1), (1, "bc", 1), (1, "br", 3), (1, "bw", 1),
            (2, "ar", 2), (2, "aw", 3), (2, "br", 2), (2, "bw", 3),
            (3, "ac", 3), (3, "ar", 3), (3, "aw", 3), (3, "bc", 3), (3, "br", 3), (3, "bw", 3),
        ]))

    def test_an_end_is_left_by_a_spare_step(self):
        # ["ar"]: 9; ["aw"]: naught, gone wrong; ["br"]: 5; ["ar", "aw"] as ["aw"]; ["aw", "ar"]: 9; ["aw", "br"]: 5.
        words, spare, marks, table = made((("end", "a", 9, B),))
        self.assertEqual((words, spare, marks), ("ab", "c", [0, 9, 0, 5, 9, 5, 9, 9]))
        nexts = nexts_of((words, spare, marks, table))
        self.assertEqual([nexts[(0, step)] for step in ("ar", "aw", "br", "bw", "cr", "cw")], [1, 2, 3, 2, 0, 2])
        self.assertEqual([nexts[(1, step)] for step in ("ar", "aw", "br", "bw", "cr", "cw")], [1, 2, 3, 2, 0, 2])
        self.assertEqual([nexts[(3, step)] for step in ("ar", "aw", "br", "bw", "cr", "cw")], [6, 5, 3, 5, 3, 5])

    def test_points_that_can_be_earned_no_more_make_states_one(self):
        # Behind what earns as much as there is to earn nothing changes but that a step goes wrong.
        self.assertEqual(made((("most", 3, ("all", (A, B))),))[2], [0, 3, 0, 3])
        self.assertEqual(made((("best", (B, ("step", "a", 5), ("step", "b", 5))),))[2], [0, 5, 0, 5])


class WordsTest(unittest.TestCase):

    def test_the_words_are_told_as_a_text_and_the_spare_is_the_least_other_one(self):
        pairs = (("a", "b"), ("b", "a"), ("h", "a"), ("ab", "c"), ("ac", "b"), ("abcdefg", "h"), ("bh", "a"))
        for words, spare in pairs:
            steps = tuple(("step", word, 1) for word in words[::-1])
            paper = (("all", steps),) if len(steps) < 5 else (("all", (("all", steps[:4]), ("all", steps[4:]))),)
            self.assertEqual(made(paper)[:2], (words, spare))

    def test_words_of_schemes_that_are_not_used_are_others(self):
        self.assertEqual(made((A, B, C))[:2], ("a", "b"))
        self.assertEqual(made((("use", 2), A, ("seen", "h", B)))[:2], ("bh", "a"))

    def test_there_is_no_spare_of_all_eight_words(self):
        words, spare, marks, table = machine = made(LARGE[0])
        self.assertEqual((words, spare), (WORDS, ""))
        self.assertEqual({step for state, step, later in table}, set(steps_of(WORDS)))
        each = [word + "r" for word in WORDS]
        for work in ([], ["ar", "br", "hr"], ["hw", "ar", "gr", "cc", "bw", "fr"], ["hw"] + each):
            self.assertEqual(walked(machine, work), marked(LARGE[0], work))
        self.assertEqual(walked(machine, ["hw", "ar", "br", "cr", "dr", "er", "fr", "gr"]), 42)


class LeastTest(unittest.TestCase):
    """What is told of the machine of every paper."""

    MACHINES = [(paper, made(paper)) for paper in PAPERS]

    def test_each_state_is_met_in_turn_of_the_least_work_that_leads_to_it(self):
        for paper, machine in self.MACHINES:
            self.assertEqual(list(least_works(machine)), list(range(len(machine[2]))), paper)

    def test_the_points_of_a_state_are_those_of_works_that_lead_to_it(self):
        for paper, machine in self.MACHINES:
            for state, work in least_works(machine).items():
                self.assertEqual(marked(paper, work), machine[2][state], paper)

    def test_each_two_states_are_told_apart(self):
        for paper, machine in self.MACHINES:
            self.assertEqual(alike(machine), set(), paper)

    def test_the_table_is_rising_and_has_just_the_steps_that_may_come(self):
        for paper, (words, spare, marks, table) in self.MACHINES:
            self.assertEqual(table, sorted(table), paper)
            due = []
            for state, work in least_works((words, spare, marks, table)).items():
                ways = "crw" if went_wrong(work) else "rw"
                due.extend((state, word + way) for word in sorted(words + spare) for way in ways)
            self.assertEqual([(state, step) for state, step, later in table], sorted(due), paper)

    def test_kinds_of_what_is_told(self):
        for paper, machine in self.MACHINES:
            self.assertEqual([part.__class__ for part in machine], [str, str, list, list])
            self.assertEqual({mark.__class__ for mark in machine[2]}, {int})
            for row in machine[3]:
                self.assertEqual((row.__class__, *[part.__class__ for part in row]), (tuple, int, str, int))

    def test_words_are_those_of_the_paper(self):
        for paper, machine in self.MACHINES:
            self.assertEqual(machine[0], "".join(words_of(paper)))
            self.assertEqual(machine[1], next(word for word in WORDS if word not in machine[0]))

    def test_it_is_the_same_asked_again(self):
        for paper, machine in self.MACHINES:
            self.assertEqual(made(paper), machine)


class WalkedTest(unittest.TestCase):

    def test_it_tells_what_marked_tells(self):
        works = all_works("abc", 3)
        for paper in PAPERS:
            machine = made(paper)
            told = [walked(machine, work) for work in works]
            self.assertEqual(told, [marked(paper, work) for work in works], paper)

    def test_words_that_the_paper_has_not_are_as_the_spare_one(self):
        works = [["hr"], ["dw", "hc"], ["gw", "ac", "hr", "br"], ["ar", "er"], ["ar", "ew", "bc", "fc"]]
        works.append(["br", "gr", "ar"])
        works.append(["hr", "gw", "fc", "ar", "er", "bc", "dw", "cr", "ac", "hr", "br", "gc"])
        for paper in PAPERS:
            for work in works:
                self.assertEqual(walked(made(paper), work), marked(paper, work), (paper, work))

    def test_a_machine_without_a_spare_word(self):
        for paper in (LARGE[0], LARGE[1]):
            machine = made(paper)
            long = [["cw", "hc", "ar", "fc"], ["hr", "br", "gw", "ac", "gr", "fr", "dr", "ec"]]
            for work in all_works("ah", 2) + long:
                self.assertEqual(walked(machine, work), marked(paper, work))

    def test_points_are_whole_numbers(self):
        self.assertIs(walked(made(PAPER), []).__class__, int)
        self.assertIs(walked(made(PAPER), ["ar"]).__class__, int)

    def test_a_work_that_can_not_be_is_refused(self):
        assert_bad_work(self, ["ac"], 0)
        assert_bad_work(self, ["ar", "zz"], 1)
        assert_bad_work(self, ["ar"] * 13, 12)

    def test_it_goes_by_the_machine_that_is_handed_in(self):
        words, spare, marks, table = made((A,))
        self.assertEqual(walked((words, spare, [7, 8, 9, 10], table), ["br", "ar"]), 8)
        self.assertEqual(walked((words, spare, marks, list(reversed(table))), ["hw", "ar"]), 3)

    def test_works_of_more_than_twelve_steps_are_walked_by_hand(self):
        points_of = walker(made((("end", "a", 9, ("carry", ("behind", "b", A))),)))
        for many in (13, 20, 100):
            self.assertEqual(points_of(["cr"] * many), 0)
            self.assertEqual(points_of(["cr"] * many + ["ar"]), 9)
            self.assertEqual(points_of(["cr"] * many + ["br", "ar", "hr"]), 3)
            self.assertEqual(points_of(["bw", "bc"] * many + ["ac"]), 3)
            self.assertEqual(points_of(["ar"] * many + ["br", "cr"]), 0)

    def test_many_steps_of_another_word_ahead_of_a_work_change_nothing(self):
        for paper in PAPERS:
            points_of = walker(made(paper))
            for work in all_works("abc", 2)[1:]:
                self.assertEqual(points_of(["hr"] * 20 + work), marked(paper, work), paper)
                self.assertEqual(points_of(["hw"] + ["hc"] * 20 + work), marked(paper, ["hw"] + work), paper)


class AlikeTest(unittest.TestCase):

    def test_papers_that_mark_alike_have_the_same_machine(self):
        for one, other in ALIKE:
            self.assertEqual(made(one), made(other), (one, other))

    def test_other_papers_have_other_machines(self):
        machines = [made(paper) for paper in PAPERS]
        works = all_works("abc", 3)
        told = [[marked(paper, work) for work in works] for paper in PAPERS]
        for one, other in combinations(range(len(PAPERS)), 2):
            if told[one] != told[other]:
                self.assertNotEqual(machines[one], machines[other])

    def test_but_for_words_that_one_has_no_need_of(self):
        for one, other in ALIKE_BUT_FOR_WORDS:
            ones, others = made(one), made(other)
            self.assertEqual(ones[2], others[2])
            steps = steps_of(set(ones[0] + ones[1]) & set(others[0] + others[1]))
            for machine in (ones, others):
                machine[3][:] = [row for row in machine[3] if row[1] in steps]
            self.assertEqual(ones[3], others[3])


class LargeTest(unittest.TestCase):

    def test_large_papers_are_made(self):
        work = ["aw", "hr", "ar", "bc", "br", "er", "fc", "gr", "hr", "cr", "dr", "fr"]
        for paper in LARGE:
            machine = made(paper)
            self.assertEqual(list(least_works(machine)), list(range(len(machine[2]))))
            self.assertEqual(machine[3], sorted(machine[3]))
            for many in range(13):
                self.assertEqual(walked(machine, work[:many]), marked(paper, work[:many]))
                self.assertEqual(walked(machine, ["aw"] + work[many:][:11]), marked(paper, ["aw"] + work[many:][:11]))

    def test_no_state_of_a_large_paper_is_needless(self):
        for paper in LARGE[2:4]:
            self.assertEqual(alike(made(paper)), set())


class RefusedTest(unittest.TestCase):

    def test_a_paper_that_can_not_be_is_refused(self):
        assert_bad_paper(self, (), 0, ())
        assert_bad_paper(self, (A, ("half", None)), 1, (0,))
