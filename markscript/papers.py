"""Papers: what can be one, and the words of it."""

from markscript.errors import BadPaper
from markscript.schemes import can_be, within, word_in

MOST_IN_PAPER = 5
MOST_IN_SCHEME = 12
LONGEST_PLACE = 4
EARNERS = ("step", "end")
MOST_EARNERS = 7
WATCHERS = ("seen", "behind")
MOST_WATCHERS = 3


def placed(schemes, place):
    """The schemes within the one at a place, each behind its own place."""
    return [(place + (at,), scheme) for at, scheme in enumerate(schemes)]


def schemes_in(paper, number):
    """All schemes in one of a paper, each ahead of what is within it; BadPaper at the first that can't be."""
    found = []
    waiting = [((), paper[number])]
    while waiting:
        place, scheme = waiting[0]
        if len(found) == MOST_IN_SCHEME or len(place) > LONGEST_PLACE:
            raise BadPaper(number, place)
        if not can_be(scheme, number, len(paper)):
            raise BadPaper(number, place)
        found.append(scheme)
        waiting = placed(within(scheme), place) + waiting[1:]
    return found


def many_of(names, parts):
    """How many schemes of these names the first one has; `parts` holds all schemes in each of a paper."""
    many = [0] * len(parts)
    # A use is of a later scheme, so from the last one on all that is used is counted already.
    for number in reversed(range(len(parts))):
        for scheme in parts[number]:
            if scheme[0] == "use":
                many[number] += many[scheme[1]]
            elif scheme[0] in names:
                many[number] += 1
    return many[0]


def check_paper(paper):
    """Refuse what is no paper with BadPaper."""
    if not isinstance(paper, tuple) or not paper:
        raise BadPaper(0, ())
    parts = []
    for number in range(len(paper)):
        if number == MOST_IN_PAPER:
            raise BadPaper(number, ())
        parts.append(schemes_in(paper, number))
    if many_of(EARNERS, parts) > MOST_EARNERS or many_of(WATCHERS, parts) > MOST_WATCHERS:
        raise BadPaper(len(paper), ())


def parts_of(paper, scheme):
    """The schemes within a scheme, in turn; of a use the used one."""
    return [paper[scheme[1]]] if scheme[0] == "use" else within(scheme)


def words_in(paper, scheme):
    """The words of a scheme, with what it uses, as often as they stand there."""
    words = [word_in(scheme)] if word_in(scheme) else []
    for inner in parts_of(paper, scheme):
        words.extend(words_in(paper, inner))
    return words


def words_of(paper):
    """The words of a paper's first scheme, with what it uses, rising."""
    check_paper(paper)
    return sorted(set(words_in(paper, paper[0])))
