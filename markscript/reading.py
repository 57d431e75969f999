"""Reading: what a work earns by a paper."""

from markscript.papers import check_paper
from markscript.works import CARRIED, RIGHT, check_work


class View:
    """What a scheme looks at: the steps of a work from `start` on, and in which ways a step that counts is done."""

    def __init__(self, steps, start, ways):
        self.steps = steps
        self.start = start
        self.ways = ways

    def counts(self, place, word):
        """Whether the step of a place is of a word, and counts."""
        step = self.steps[place]
        return step[0] == word and step[1] in self.ways

    def first(self, word):
        """The place of the first step of a word that counts; None, if there is none."""
        for place in range(self.start, len(self.steps)):
            if self.counts(place, word):
                return place
        return None

    def last(self, word):
        """The place of the work's last step, if it is looked at, of a word, and counts; else None."""
        place = len(self.steps) - 1
        return place if place >= self.start and self.counts(place, word) else None

    def stands(self, word):
        """Whether a word stands anywhere in the work, looked at or not, however it was done."""
        return any([step[0] == word for step in self.steps])

    def behind(self, place):
        """The view of the steps behind a place."""
        return View(self.steps, place + 1, self.ways)

    def carrying(self):
        """The view in which carried steps count too."""
        return View(self.steps, self.start, (RIGHT, CARRIED))


def points_of(rows):
    """The sum of the points of rows."""
    return sum([points for place, points, where in rows])


def first_points(rows, limit):
    """The rows with the first so many of their points, in turn."""
    kept = []
    left = limit
    for place, points, where in rows:
        if left == 0:
            break
        taken = min(points, left)
        kept.append((place, taken, where))
        left -= taken
    return kept


def row_at(place, points, where):
    """The one row of the step at a place; none, if there is no such step."""
    return [] if place is None else [(place, points, where)]


def rows_of_each(paper, schemes, where, view):
    """The rows of each of the schemes within the one that stands at `where`."""
    return [rows_of(paper, scheme, where + (at,), view) for at, scheme in enumerate(schemes)]


def rows_of_all(paper, schemes, where, view):
    """The rows of all of these schemes, in turn."""
    return [row for rows in rows_of_each(paper, schemes, where, view) for row in rows]


def rows_of(paper, scheme, where, view):
    """The rows of a scheme that stands at `where` and looks at `view`, in turn."""
    match scheme:
        case ("step", word, points):
            return row_at(view.first(word), points, where)
        case ("all", schemes):
            return rows_of_all(paper, schemes, where, view)
        case ("best", schemes):
            # Of several with the most points, max tells the first.
            return max(rows_of_each(paper, schemes, where, view), key=points_of)
        case ("most", limit, inner):
            return first_points(rows_of(paper, inner, where + (0,), view), limit)
        case ("half", inner):
            rows = rows_of(paper, inner, where + (0,), view)
            return first_points(rows, points_of(rows) // 2)
        case ("seen", word, inner):
            return rows_of(paper, inner, where + (0,), view) if view.stands(word) else []
        case ("behind", word, inner):
            place = view.first(word)
            return [] if place is None else rows_of(paper, inner, where + (0,), view.behind(place))
        case ("carry", inner):
            return rows_of(paper, inner, where + (0,), view.carrying())
        case ("end", word, points, inner):
            return row_at(view.last(word), points, where) or rows_of(paper, inner, where + (0,), view)
        case ("use", number):
            return rows_of(paper, paper[number], where + (0,), view)


def rows_by(paper, work):
    """The rows that steps, of however many, earn by a paper; both were looked through already."""
    return rows_of(paper, paper[0], (), View(work, 0, (RIGHT,)))


def earned(paper, work):
    """The rows (place, points, where) that a work earns by a paper, in turn."""
    check_paper(paper)
    check_work(work)
    return rows_by(paper, work)


def marked(paper, work):
    """The sum of the points that a work earns by a paper."""
    return points_of(earned(paper, work))
