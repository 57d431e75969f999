"""The refusals."""


class MarkError(ValueError):
    """Any refusal."""


class BadPaper(MarkError):
    """What is no paper: the number of the scheme, and the place in it, of the first that can't be."""

    def __init__(self, scheme, place):
        super().__init__(f"no paper: scheme {scheme}, place {place}")
        self.scheme = scheme
        self.place = place


class BadWork(MarkError):
    """What is no work: the number of the first step that can't be."""

    def __init__(self, number):
        super().__init__(f"no work: step {number}")
        self.number = number


class BadStep(MarkError):
    """No place of a step, or a step that can't stand there."""


class BadCount(MarkError):
    """No such scheme, or more works than can be held."""


class NoWork(MarkError):
    """No work of this number."""


class BadText(MarkError):
    """A text that can't be read: the place of the first word that can't stand there."""

    def __init__(self, place):
        super().__init__(f"no such text: word {place}")
        self.place = place
