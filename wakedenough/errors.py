"""The errors that the package raises."""


class ScaleError(ValueError):
    """What was told cannot be used, or cannot be done."""


class BadText(ScaleError):
    """A text has a first wrong place."""

    def __init__(self, place):
        ScaleError.__init__(self, f"the text is wrong at {place}")
        self.place = place


class BadTree(ScaleError):
    """A value has a first wrong part."""

    def __init__(self, path):
        ScaleError.__init__(self, f"the value is wrong at {path}")
        self.path = tuple(path)


class TooGreat(ScaleError):
    """What is asked for would be too great."""


class BadAct(ScaleError):
    """An act cannot be done."""

    def __init__(self, word):
        ScaleError.__init__(self, f"the act cannot be done: {word}")
        self.word = word


class BadAsk(ScaleError):
    """A question cannot be answered."""

    def __init__(self, word):
        ScaleError.__init__(self, f"the question cannot be answered: {word}")
        self.word = word


class NotServed(ScaleError):
    """A runner does not serve at a tick."""

    def __init__(self, tick):
        ScaleError.__init__(self, f"not served at the tick {tick}")
        self.tick = tick


class NothingDone(ScaleError):
    """There is nothing that could be done."""


class NameMissing(LookupError):
    """A name is that of nothing."""


class UnknownName(NameMissing):
    """A name was asked for that nothing has."""

    def __init__(self, name):
        NameMissing.__init__(self, f"nothing has the name {name}")
        self.name = name
