"""States: what there is to know of a work to mark it, and all works that begin so."""

from markscript.papers import parts_of
from markscript.reading import points_of, rows_by
from markscript.schemes import word_in
from markscript.works import CARRIED, RIGHT, WRONG


class Watch:
    """What a state tells of one step, end, seen or behind of a paper: whether it is on."""

    def __init__(self, name, word, ways, gate):
        self.name = name
        self.word = word
        self.ways = ways
        # It looks at the steps that come when the watch of this number is on; None, if it looks at all.
        self.gate = gate

    def is_on(self, was_on, looks, step):
        """Whether it is on behind a step; `looks` tells whether it looks at this step."""
        if self.name == "seen":
            return was_on or step[0] == self.word
        counts = looks and step[0] == self.word and step[1] in self.ways
        # An end asks for the last step alone, all others for the first one.
        return counts if self.name == "end" else was_on or counts


def add_watches(watches, paper, scheme, ways, gate):
    """Add the watches of a scheme, with what it uses; each gate stands ahead of those that it is for."""
    if word_in(scheme):
        watches.append(Watch(scheme[0], word_in(scheme), ways, gate))
    inner_gate = len(watches) - 1 if scheme[0] == "behind" else gate
    inner_ways = (RIGHT, CARRIED) if scheme[0] == "carry" else ways
    for inner in parts_of(paper, scheme):
        add_watches(watches, paper, inner, inner_ways, inner_gate)


def watches_of(paper):
    """The watches of a paper's first scheme, with what it uses."""
    watches = []
    add_watches(watches, paper, paper[0], (RIGHT,), None)
    return watches


def state_behind(watches, state, step):
    """The state that a step leads to: whether a wrong step has come, and of each watch whether it is on."""
    went_wrong, on = state
    now = []
    for watch, was_on in zip(watches, on):
        looks = watch.gate is None or on[watch.gate]
        now.append(watch.is_on(was_on, looks, step))
    return (went_wrong or step[1] == WRONG, tuple(now))


def state_of(watches, work):
    """The state that a work leads to."""
    state = (False, (False,) * len(watches))
    for step in work:
        state = state_behind(watches, state, step)
    return state


def steps_of(words):
    """All steps of these words, rising."""
    return sorted([word + way for word in words for way in (CARRIED, RIGHT, WRONG)])


def may_come(state, step):
    """Whether a step may come in a state."""
    return state[0] or step[1] != CARRIED


def explored(paper, work, steps):
    """All states that this work leads to with further ones of these steps, which rise.

    Two lists, each with one item for each state, in turn of the least further steps that lead to it: these steps; and
    a dict of the steps that may come there, rising, with the numbers of the next states.
    """
    watches = watches_of(paper)
    states = [state_of(watches, work)]
    numbers = {states[0]: 0}
    leads = [[]]
    nexts = []
    # States are gone on from in turn, by rising steps, so each is first found by the least steps that lead to it.
    while len(nexts) < len(states):
        number = len(nexts)
        coming = {}
        for step in steps:
            if may_come(states[number], step):
                state = state_behind(watches, states[number], step)
                if state not in numbers:
                    numbers[state] = len(states)
                    states.append(state)
                    leads.append(leads[number] + [step])
                coming[step] = numbers[state]
        nexts.append(coming)
    return leads, nexts


def points_by(paper, work, leads):
    """The points of a work with each of these further steps."""
    return [points_of(rows_by(paper, work + lead)) for lead in leads]


def numbered(keys):
    """Of each key a number, in turn of the first of each."""
    numbers = {}
    told = []
    for key in keys:
        told.append(numbers.setdefault(key, len(numbers)))
    return told


def finer(classes, nexts):
    """The classes of states, apart where one more step leads to other ones, or may not come in both."""
    keys = []
    for number, coming in enumerate(nexts):
        # Where other steps may come these are more or fewer: all of each word, or all but the carried ones.
        keys.append((classes[number], tuple([classes[later] for later in coming.values()])))
    return numbered(keys)


def levels_of(points, nexts):
    """The classes of states that no steps tell apart, that at most one does not, and so on; the last that none do."""
    levels = []
    classes = numbered(points)
    while not levels or classes != levels[-1]:
        levels.append(classes)
        classes = finer(classes, nexts)
    return levels
