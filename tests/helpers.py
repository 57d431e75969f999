"""What several tests need: small schemes, and how a refusal is asked for."""

from copy import deepcopy
from itertools import product

from markscript.deciding import earnable, parted, span
from markscript.errors import BadPaper, BadWork, MarkError
from markscript.heaps import Heap
from markscript.machines import made, walked
from markscript.notes import written, written_work
from markscript.papers import words_of
from markscript.reading import earned, marked

STEP = ("step", "a", 1)
PAPER = (STEP,)
TWO = ("all", (STEP, STEP))
FOUR = ("all", (STEP, STEP, STEP, STEP))
# What else may be handed in where something of one sort is due.
OTHERS = ((), (1,), [], ["a"], "", "zz", 99, -1, True, False, None)


def nested(name, depth, scheme):
    """A scheme with `depth` others of one scheme each around it."""
    for turn in range(depth):
        scheme = (name, scheme)
    return scheme


def refusal(ask):
    """The refusal that a call ends in; None, if it tells something."""
    try:
        ask()
    except MarkError as refused:
        return refused
    return None


def assert_bad_paper(test, paper, scheme, place):
    """Every function refuses the paper there, ahead of what else is wrong, and changes nothing."""
    before = deepcopy(paper)
    calls = [lambda ask=ask: ask(paper) for ask in (words_of, made, earnable, Heap, written)]
    calls.append(lambda: parted(PAPER, paper))
    for other in (PAPER, (), None):
        calls.append(lambda other=other: parted(paper, other))
    for work in ([], ["ar"], None, ["zz"]):
        for ask in (earned, marked, span):
            calls.append(lambda ask=ask, work=work: ask(paper, work))
    for call in calls:
        refused = refusal(call)
        test.assertIs(refused.__class__, BadPaper, paper)
        test.assertEqual((refused.scheme, refused.place), (scheme, place), paper)
        test.assertEqual([part.__class__ for part in (refused.scheme, refused.place)], [int, tuple])
    test.assertEqual(paper, before)


def assert_paper(test, paper):
    """No function refuses the paper."""
    for ask, told in ((words_of, list), (made, tuple), (earnable, list), (Heap, Heap), (written, str)):
        test.assertIs(ask(paper).__class__, told)
    for ask, told in ((earned, list), (marked, int), (span, tuple)):
        test.assertIs(ask(paper, ["ar"]).__class__, told)
    test.assertIsNone(parted(paper, paper))


def assert_bad_work(test, work, number):
    """Every function that is handed a work refuses it there, and changes nothing."""
    before = deepcopy(work)
    machine = made(PAPER)
    heap = Heap(PAPER)
    calls = [lambda ask=ask: ask(PAPER, work) for ask in (earned, marked, span)]
    calls.extend([lambda: walked(machine, work), lambda: heap.add(work), lambda: written_work(work)])
    for call in calls:
        refused = refusal(call)
        test.assertIs(refused.__class__, BadWork, work)
        test.assertEqual((refused.number, refused.number.__class__), (number, int), work)
    test.assertEqual(work, before)
    test.assertEqual((heap.sheet(), heap.back()), ([], False))


def steps_of(words):
    """All steps of these words, rising."""
    return sorted(word + way for word in words for way in "rwc")


def went_wrong(work):
    """Whether a step of a work is wrong."""
    return any(step[1] == "w" for step in work)


def all_works(words, most):
    """All works of these words of at most so many steps, in turn."""
    works = [list(row) for many in range(most + 1) for row in product(steps_of(words), repeat=many)]
    return [work for work in works if is_work(work)]


def is_work(work):
    """Whether no step is carried on without a wrong one ahead."""
    ways = "".join(step[1] for step in work)
    return "c" not in ways or "w" in ways.partition("c")[0]


def nexts_of(machine):
    """The next state of each state and step that the table of a machine holds."""
    return {(state, step): later for state, step, later in machine[3]}


def walker(machine):
    """What tells the points of a work of however many steps by the table of a machine."""
    words, spare, marks, table = machine
    nexts = nexts_of(machine)

    def points_of(work):
        state = 0
        for step in work:
            state = nexts[(state, step if step[0] in words else spare + step[1])]
        return marks[state]

    return points_of
