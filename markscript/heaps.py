"""Heaps: works that are marked anew where a step, or a scheme of the paper, is told otherwise."""

from markscript.errors import BadCount, BadStep, BadWork, NoWork
from markscript.papers import check_paper
from markscript.reading import points_of, rows_by
from markscript.schemes import is_number
from markscript.works import check_work

MOST_WORKS = 20


def is_place(thing, many):
    """Whether a thing is the number of one of so many."""
    return is_number(thing) and 0 <= thing < many


def with_step(work, place, step):
    """A work with another step at a place; BadStep for no place in it, or if that is no work."""
    if not is_place(place, len(work)):
        raise BadStep()
    steps = work[:place] + [step] + work[place + 1:]
    try:
        check_work(steps)
    except BadWork:
        raise BadStep() from None
    return steps


def earnings(rows):
    """Of each place of a scheme what is earned there: (place, points)."""
    return {where: (place, points) for place, points, where in rows}


def differences(rows, other_rows):
    """The rows (where, ahead, now), rising, of all that is earned otherwise."""
    ahead = earnings(rows)
    now = earnings(other_rows)
    wheres = sorted(set(list(ahead) + list(now)))
    told = [(where, ahead.get(where, None), now.get(where, None)) for where in wheres]
    return [row for row in told if row[1] != row[2]]


class Heap:
    """Works that are marked by a paper."""

    def __init__(self, paper):
        check_paper(paper)
        self.paper = paper
        # Of each work its steps and its rows. No list in here, nor this one, is ever changed: a deed makes a new one.
        self.held = []
        # What the paper and the works were ahead of each deed that isn't taken back.
        self.past = []

    def become(self, paper, held):
        """Do a deed, such that it can be taken back."""
        self.past.append((self.paper, self.held))
        self.paper = paper
        self.held = held

    def kept(self, number):
        """The steps and the rows of a work."""
        if not is_place(number, len(self.held)):
            raise NoWork()
        return self.held[number]

    def add(self, work):
        """Put a work on the heap, and tell its number."""
        check_work(work)
        if len(self.held) == MOST_WORKS:
            raise BadCount()
        steps = list(work)
        self.become(self.paper, self.held + [(steps, rows_by(self.paper, steps))])
        return len(self.held) - 1

    def reread(self, number, place, step):
        """Let a step of a work be another one; tell (where, ahead, now), rising, of all that is earned otherwise."""
        work, rows = self.kept(number)
        steps = with_step(work, place, step)
        now = rows_by(self.paper, steps)
        self.become(self.paper, self.held[:number] + [(steps, now)] + self.held[number + 1:])
        return differences(rows, now)

    def change(self, number, scheme):
        """Let a scheme of the paper be another one; tell the numbers of all works, rising, that earn other rows."""
        if not is_place(number, len(self.paper)):
            raise BadCount()
        paper = self.paper[:number] + (scheme,) + self.paper[number + 1:]
        check_paper(paper)
        held = [(work, rows_by(paper, work)) for work, rows in self.held]
        others = [at for at, (work, rows) in enumerate(self.held) if rows != held[at][1]]
        self.become(paper, held)
        return others

    def back(self):
        """Take the last deed that isn't taken back yet back, and tell True; False, if there is none."""
        if not self.past:
            return False
        self.paper, self.held = self.past.pop()
        return True

    def work(self, number):
        """The steps of a work."""
        work, rows = self.kept(number)
        return list(work)

    def rows(self, number):
        """The rows that a work earns."""
        work, rows = self.kept(number)
        return list(rows)

    def sheet(self):
        """The points of all works."""
        return [points_of(rows) for work, rows in self.held]
