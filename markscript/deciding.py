"""Deciding: where papers part, what works can still come to, and what is ever earned."""

from markscript.papers import EARNERS, check_paper, parts_of
from markscript.reading import rows_by
from markscript.states import explored, levels_of, points_by, steps_of
from markscript.works import WORDS, check_work


def moved(nexts, many):
    """The next states, each with a number greater by so many."""
    return [{step: later + many for step, later in coming.items()} for coming in nexts]


def parting_steps(levels, nexts, one, other):
    """The least steps that tell two states apart; None, if none do."""
    apart = [classes[one] != classes[other] for classes in levels]
    if True not in apart:
        return None
    steps = []
    # Where so many steps tell two states apart, one step leads to two that one step fewer tells apart.
    for classes in reversed(levels[:apart.index(True)]):
        ways = [step for step in nexts[one] if classes[nexts[one][step]] != classes[nexts[other][step]]]
        steps.append(ways[0])
        one, other = nexts[one][ways[0]], nexts[other][ways[0]]
    return steps


def parted(one, other):
    """The least work that two papers mark otherwise; None, if there is none."""
    check_paper(one)
    check_paper(other)
    leads, nexts = explored(one, [], steps_of(WORDS))
    other_leads, other_nexts = explored(other, [], steps_of(WORDS))
    both = nexts + moved(other_nexts, len(nexts))
    points = points_by(one, [], leads) + points_by(other, [], other_leads)
    return parting_steps(levels_of(points, both), both, 0, len(nexts))


def span(paper, work):
    """The least and the most points of all works that begin so, each with the least further steps to it."""
    check_paper(paper)
    check_work(work)
    leads, nexts = explored(paper, work, steps_of(WORDS))
    points = points_by(paper, work, leads)
    least = min(points)
    most = max(points)
    # A copy, as both may be the same list.
    return (least, leads[points.index(least)], most, list(leads[points.index(most)]))


def earners_in(paper, scheme, where):
    """Where the steps and ends of a scheme stand, with what it uses, in turn."""
    found = [where] if scheme[0] in EARNERS else []
    for at, inner in enumerate(parts_of(paper, scheme)):
        found.extend(earners_in(paper, inner, where + (at,)))
    return found


def earnable(paper):
    """Of each step and end of a paper (where, work): the least work that earns anything there, or None."""
    check_paper(paper)
    leads, nexts = explored(paper, [], steps_of(WORDS))
    firsts = {}
    for lead in leads:
        for place, points, where in rows_by(paper, lead):
            firsts.setdefault(where, lead)
    wheres = earners_in(paper, paper[0], ())
    # Copies, as several may be the same list.
    return [(where, list(firsts[where]) if where in firsts else None) for where in wheres]
