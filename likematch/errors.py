"""The refusals: a class for each, straight under MatchError."""


class MatchError(ValueError):
    """What this package refuses; word is the class's name in small letters."""

    def __init__(self, why=""):
        super().__init__(f"{why}")
        self.word = self.__class__.__name__.lower()


class BadTerm(MatchError):
    """What should be a term is none."""


class BadPattern(MatchError):
    """What should be a pattern is none."""


class BadTerms(MatchError):
    """What should be a list of terms, of pairs or of patterns is none such."""


class NoHole(MatchError):
    """A fill lacks a hole that is needed."""

    def __init__(self, hole):
        super().__init__(f"nothing is given for the hole {hole}")
        self.hole = hole


class TooGreat(MatchError):
    """A term goes beyond the bounds of size and depth."""


class TooMany(MatchError):
    """There would be more than may be."""


class NotAlike(MatchError):
    """Two terms that should be alike are not."""


class NoDeed(MatchError):
    """There is no deed to be taken back or done again."""


class NoLog(MatchError):
    """What should be a log is none, from the row at this place on."""

    def __init__(self, at):
        super().__init__(f"this is no log, by what stands at {at}")
        self.at = at


class BadTable(MatchError):
    """What should be a table is none."""


class BadRule(MatchError):
    """What should be a rule is none."""


class BadRules(MatchError):
    """What should be a list of rules is none."""


class NoCover(MatchError):
    """No patterns of a rule have all of its holes."""


class NotReached(MatchError):
    """No round makes two terms alike."""


class NoText(MatchError):
    """What should be a pattern's text is none, from the sign at this place on."""

    def __init__(self, at):
        super().__init__(f"this is no text of a pattern, by what stands at {at}")
        self.at = at
