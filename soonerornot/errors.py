"""The errors that the package raises."""


class OrderError(ValueError):
    """Something that was passed is not as it should be, or can't be done."""


class BadText(OrderError):
    """A text has a first wrong place."""

    def __init__(self, place):
        OrderError.__init__(self, f"the text is wrong at {place!r}")
        self.place = place


class BadTree(OrderError):
    """A value has a first wrong part, to which a path leads."""

    def __init__(self, path):
        # A list counts as the same argument as a tuple, in the message too.
        OrderError.__init__(self, f"the value is wrong at {tuple(path)!r}")
        self.path = tuple(path)


class TooGreat(OrderError):
    """More is asked for than the function takes."""

    def __init__(self):
        OrderError.__init__(self, "this is too great")


class BadAct(OrderError):
    """An act that can't be done, with the word that tells why."""

    def __init__(self, word):
        OrderError.__init__(self, f"this act can't be done: {word!r}")
        self.word = word


class BadAsk(OrderError):
    """A question that can't be answered, with the word that tells why."""

    def __init__(self, word):
        OrderError.__init__(self, f"this can't be asked: {word!r}")
        self.word = word


class NothingDone(OrderError):
    """There is nothing to be taken back, or to be done again."""

    def __init__(self):
        OrderError.__init__(self, "there is nothing of this kind")


class NameMissing(LookupError):
    """Something is not there under the name that was passed."""


class UnknownName(NameMissing):
    """A name that is that of nothing."""

    def __init__(self, name):
        NameMissing.__init__(self, f"nothing has the name {name!r}")
        self.name = name
