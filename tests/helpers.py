"""What several tests need: small schemes, and how a refusal is asked for."""

from copy import deepcopy
from itertools import product

from markscript.errors import BadPaper, BadWork, MarkError
from markscript.papers import words_of
from markscript.reading import earned, marked

STEP = ("step", "a", 1)
PAPER = (STEP,)
TWO = ("all", (STEP, STEP))
FOUR = ("all", (STEP, STEP, STEP, STEP))
# What else may be handed in where something of one sort is due.
OTHERS = ((), (1,), [], ["a"], "", "zz", 99, -1, True, False, None)


def nested(name, depth, scheme):
    """A scheme with `depth` others of one scheme each around it."""
    for turn in range(depth):
        scheme = (name, scheme)
    return scheme


def refusal(ask):
    """The refusal that a call ends in; None, if it tells something."""
    try:
        ask()
    except MarkError as refused:
        return refused
    return None


def assert_bad_paper(test, paper, scheme, place):
    """Every function refuses the paper there, ahead of what is wrong with the work, and changes nothing."""
    before = deepcopy(paper)
    calls = [lambda: words_of(paper)]
    for work in ([], ["ar"], None, ["zz"]):
        calls.append(lambda work=work: earned(paper, work))
        calls.append(lambda work=work: marked(paper, work))
    for call in calls:
        refused = refusal(call)
        test.assertIs(refused.__class__, BadPaper, paper)
        test.assertEqual((refused.scheme, refused.place), (scheme, place), paper)
        test.assertIs(refused.place.__class__, tuple)
    test.assertEqual(paper, before)


def assert_paper(test, paper):
    """No function refuses the paper."""
    test.assertIsInstance(words_of(paper), list)
    test.assertIsInstance(earned(paper, ["ar"]), list)
    test.assertIsInstance(marked(paper, ["ar"]), int)


def assert_bad_work(test, work, number):
    """Every function that is handed a work refuses it there, and changes nothing."""
    before = deepcopy(work)
    for ask in (earned, marked):
        refused = refusal(lambda: ask(PAPER, work))
        test.assertIs(refused.__class__, BadWork, work)
        test.assertEqual(refused.number, number, work)
    test.assertEqual(work, before)


def all_works(words, most):
    """All works of these words of at most so many steps."""
    steps = [word + way for word in words for way in "rwc"]
    works = [list(row) for many in range(most + 1) for row in product(steps, repeat=many)]
    return [work for work in works if is_work(work)]


def is_work(work):
    """Whether no step is carried on without a wrong one ahead."""
    ways = "".join(step[1] for step in work)
    return "c" not in ways or "w" in ways.partition("c")[0]
