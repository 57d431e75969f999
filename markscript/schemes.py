"""Schemes: their ten sorts, and what stands in each."""

from markscript.works import WORDS

# What stands behind the name, in turn; the schemes within are the last of it.
SHAPES = {
    "step": ("word", "points"),
    "all": ("schemes",),
    "best": ("schemes",),
    "most": ("limit", "scheme"),
    "half": ("scheme",),
    "seen": ("word", "scheme"),
    "behind": ("word", "scheme"),
    "carry": ("scheme",),
    "end": ("word", "points", "scheme"),
    "use": ("later",),
}
BOUNDS = {"points": (1, 9), "limit": (0, 30)}
MOST_WITHIN = 4


def is_number(thing):
    """Whether a thing is a whole number."""
    return isinstance(thing, int) and not isinstance(thing, bool)


def fits(part, kind, number, many):
    """Whether a part of scheme `number` of `many` is of a kind that SHAPES names."""
    if kind == "word":
        return part in WORDS
    if kind == "schemes":
        return isinstance(part, tuple) and 1 <= len(part) <= MOST_WITHIN
    if kind == "scheme":
        # A scheme within is refused at its own place, not at this one.
        return True
    if kind == "later":
        return is_number(part) and number < part < many
    least, most = BOUNDS[kind]
    return is_number(part) and least <= part <= most


def can_be(thing, number, many):
    """Whether a thing can stand in scheme `number` of `many`, but for the schemes within it."""
    if not isinstance(thing, tuple) or not thing or not isinstance(thing[0], str):
        return False
    shape = SHAPES.get(thing[0], None)
    if shape is None or len(thing) != len(shape) + 1:
        return False
    return all([fits(part, kind, number, many) for part, kind in zip(thing[1:], shape)])


def word_in(scheme):
    """The word that a scheme names itself; the empty text, if it names none."""
    return scheme[1] if SHAPES[scheme[0]][0] == "word" else ""


def within(scheme):
    """The schemes within a scheme, in turn."""
    last = SHAPES[scheme[0]][-1]
    if last == "schemes":
        return list(scheme[-1])
    return [scheme[-1]] if last == "scheme" else []
