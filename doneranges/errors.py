"""The refusals of the program."""


class DoneError(ValueError):
    """Any refusal."""


class BadStretches(DoneError):
    """A list that is no set of deeds; at is the place of the first row that is none."""

    def __init__(self, at):
        DoneError.__init__(self, f"no stretch at place {at}")
        self.at = at


class NoHouse(DoneError):
    """A house, a seat or a count of them that there isn't."""


class BadCount(DoneError):
    """A count that is too small, too great, or unlike another."""


class BadDeed(DoneError):
    """Something that is no deed; at is the place of the first such."""

    def __init__(self, at):
        DoneError.__init__(self, f"no deed at place {at}")
        self.at = at


class NoDeed(DoneError):
    """A deed that there isn't, or that can't be done any more."""


class BadText(DoneError):
    """A text that can't be read; place is the number of the first word that can't stand there."""

    def __init__(self, place):
        DoneError.__init__(self, f"the text can't be read at word {place}")
        self.place = place


class NotYet(DoneError):
    """Something that can't be told or done so far."""


class TooOld(DoneError):
    """A term that is over."""


class BadEvent(DoneError):
    """Something that is no event; at is the place of the first such."""

    def __init__(self, at):
        DoneError.__init__(self, f"no event at place {at}")
        self.at = at
