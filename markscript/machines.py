"""Machines: the least ones that mark works as papers do."""

from markscript.papers import words_of
from markscript.states import explored, levels_of, points_by, steps_of
from markscript.works import WORDS, check_work


def spare_of(words):
    """The least word that is none of these; the empty text, if there is none."""
    others = [word for word in WORDS if word not in words]
    return others[0] if others else ""


def made(paper):
    """The machine (words, spare, marks, table) of a paper."""
    words = "".join(words_of(paper))
    spare = spare_of(words)
    leads, nexts = explored(paper, [], steps_of(words + spare))
    points = points_by(paper, [], leads)
    classes = levels_of(points, nexts)[-1]
    marks = []
    table = []
    for number, state in enumerate(classes):
        # The first of a class is the one with the least lead of all, and classes are numbered in turn of these.
        if state == len(marks):
            marks.append(points[number])
            table.extend([(state, step, classes[later]) for step, later in nexts[number].items()])
    return (words, spare, marks, table)


def walked(machine, work):
    """The points of a work by what made told."""
    check_work(work)
    words, spare, marks, table = machine
    nexts = {(state, step): later for state, step, later in table}
    state = 0
    for step in work:
        known = step if step[0] in words else spare + step[1]
        state = nexts[(state, known)]
    return marks[state]
