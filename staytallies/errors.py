"""All errors of the package."""


class TallyError(ValueError):
    """The base class of all errors here."""


class BadStands(TallyError):
    """The number of stands is no integer from 1 to 8."""


class BadSteps(TallyError):
    """The steps are no tuple (index None), or the thing at this index cannot stand there."""

    def __init__(self, index):
        TallyError.__init__(self, f"not the steps of a machine, index {index}")
        self.index = index


class BadEnds(TallyError):
    """The ends are no ascending tuple of unlike stands."""


class BadMachine(TallyError):
    """A value is no machine."""


class BadStand(TallyError):
    """A value is no stand of the machine."""


class BadRow(TallyError):
    """A value is no row of the machine."""


class BadLetter(TallyError):
    """A value is no letter that has a step from the stand."""


class BadNumber(TallyError):
    """A value, n, is no number of the range that is asked for."""

    def __init__(self, n):
        # The message leaves out n: Python does not write integers of very many digits.
        TallyError.__init__(self, "not a number of the range that is asked for")
        self.n = n


class BadBounds(TallyError):
    """Two values are no bounds."""


class BadSet(TallyError):
    """A value is no ascending tuple of unlike places of steps."""


class TooMany(TallyError):
    """There are more steps than the most that may be."""

    def __init__(self, most):
        TallyError.__init__(self, f"more steps than {most}")
        self.most = most


class InvalidText(TallyError):
    """A text is none of a machine: its first wrong line, and the first wrong word there, from 1."""

    def __init__(self, line, word):
        TallyError.__init__(self, f"line {line}, word {word}")
        self.line = line
        self.word = word
