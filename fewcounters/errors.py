"""The refusals: CountError, and straight under it one class for each thing that is refused."""


class CountError(ValueError):
    """Any refusal."""


class NoWeb(CountError):
    """Refused: what is no web."""


class NoRun(CountError):
    """Refused: what is no run, no beginning of one, or no heap of runs."""


class NoCounts(CountError):
    """Refused: numbers that are the counts of no heap."""


class NoChoice(CountError):
    """Refused: what is no choice of rows."""


class NoGuess(CountError):
    """Refused: what are no guesses."""


class NoMarks(CountError):
    """Refused: marks from which no counts come back."""


class NoLoose(CountError):
    """Refused: a part that is not loose."""


class NoWay(CountError):
    """Refused: a part that is not there, what is no way, or no way's number."""


class NoChain(CountError):
    """Refused: what is no chain, or no chain's number."""


class NoText(CountError):
    """Refused: a text that is no program; word is the number of its first wrong word."""

    def __init__(self, word):
        self.word = word


class NoProgram(CountError):
    """Refused: a program that has no web; word is the number of the first word that hinders it."""

    def __init__(self, word):
        self.word = word


class NoCode(CountError):
    """Refused: a list that is no code; place is the number of its first wrong tuple."""

    def __init__(self, place):
        self.place = place


class NoAnswer(CountError):
    """Refused: what are no answers, or is no bound."""


class NoPlan(CountError):
    """Refused: a plan that the judge does not let by."""


class NoLog(CountError):
    """Refused: a log of another text or choice."""


class NoRow(CountError):
    """Refused: a row of text that the desk does not know."""


class NoName(CountError):
    """Refused: what is no name, or a name by which nothing stands."""
