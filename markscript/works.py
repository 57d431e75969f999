"""Works: lists of steps, each a word and how it was done."""

from markscript.errors import BadWork

WORDS = ("a", "b", "c", "d", "e", "f", "g", "h")
RIGHT = "r"
WRONG = "w"
CARRIED = "c"
MOST_STEPS = 12


def is_step(thing):
    """Whether a thing is a step."""
    if not isinstance(thing, str) or len(thing) != 2:
        return False
    return thing[0] in WORDS and thing[1] in (RIGHT, WRONG, CARRIED)


def check_work(work):
    """Refuse what is no work with BadWork."""
    if not isinstance(work, list):
        # The document tells no number for this; a paper that is no tuple is refused at its first scheme.
        raise BadWork(0)
    went_wrong = False
    for number, step in enumerate(work):
        if number == MOST_STEPS or not is_step(step):
            raise BadWork(number)
        if step[1] == CARRIED and not went_wrong:
            raise BadWork(number)
        went_wrong = went_wrong or step[1] == WRONG
