"""Notes: papers and works as texts."""

from markscript.errors import BadText
from markscript.papers import check_paper
from markscript.schemes import SHAPES
from markscript.works import WORDS, check_work, is_step

MOST_FIGURES = 2


def words_written(scheme):
    """The words that a scheme is written as."""
    words = [scheme[0]]
    for part, kind in zip(scheme[1:], SHAPES[scheme[0]]):
        if kind == "schemes":
            words.append(str(len(part)))
            for inner in part:
                words.extend(words_written(inner))
        elif kind == "scheme":
            words.extend(words_written(part))
        else:
            words.append(str(part))
    return words


def written(paper):
    """The text of a paper."""
    check_paper(paper)
    return "\n".join([" ".join(words_written(scheme)) for scheme in paper])


def written_work(work):
    """The text of a work."""
    check_work(work)
    return " ".join(work)


def is_figures(word):
    """Whether a word is a number of one or two figures, none needless."""
    return word.isdecimal() and len(word) <= MOST_FIGURES and str(int(word)) == word


def can_stand(word, kind):
    """Whether a word can stand where one of a kind that SHAPES names must."""
    if kind == "scheme":
        return word in SHAPES
    return word in WORDS if kind == "word" else is_figures(word)


def coming(word, kind):
    """The kinds of words that must come behind a word, in turn."""
    if kind == "scheme":
        return list(SHAPES[word])
    return ["scheme"] * int(word) if kind == "schemes" else []


def kinds_in(words, start):
    """The kind of each word of a row, the first of which is word `start` of the text; BadText at what can't stand."""
    kinds = []
    # What must come, the last of it first.
    due = ["scheme"]
    for place, word in enumerate(words, start=start):
        if not due or not can_stand(word, due[-1]):
            raise BadText(place)
        kinds.append(due.pop())
        due.extend(coming(word, kinds[-1])[::-1])
    if due:
        raise BadText(start + len(words))
    return kinds


def taken(parts, many):
    """So many of the last parts, the last first; they are taken away."""
    found = []
    for turn in range(many):
        found.append(parts.pop())
    return tuple(found)


def scheme_of(words, kinds):
    """The scheme that a row is read as."""
    parts = []
    # From the last word on, what a scheme is made of is there ahead of its name, however deep it stands.
    for word, kind in reversed(list(zip(words, kinds))):
        if kind == "scheme":
            parts.append((word,) + taken(parts, len(SHAPES[word])))
        elif kind == "schemes":
            parts.append(taken(parts, int(word)))
        else:
            parts.append(word if kind == "word" else int(word))
    return parts[0]


def read(text):
    """The paper that a text tells."""
    schemes = []
    start = 0
    for row in text.split("\n"):
        words = row.split(" ")
        schemes.append(scheme_of(words, kinds_in(words, start)))
        start += len(words)
    paper = tuple(schemes)
    check_paper(paper)
    return paper


def read_work(text):
    """The work that a text tells."""
    work = text.split(" ") if text else []
    for place, word in enumerate(work):
        if not is_step(word):
            raise BadText(place)
    check_work(work)
    return work
