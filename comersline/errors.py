"""The refusals, each of a class of its own under LineError."""


class LineError(ValueError):
    """Any refusal."""


class NoPlan(LineError):
    """No plan."""


class NoPerson(LineError):
    """No number of one that is asked of here."""


class NoMoment(LineError):
    """No moment of the plan, or none that is due here."""


class TooMany(LineError):
    """A moment by which more have come than are listed."""


class NoOther(LineError):
    """One person where two are due."""


class NoPlace(LineError):
    """No place of the queue."""


class NoEnd(LineError):
    """A plan that ends, where one without end is due."""


class NoOrder(LineError):
    """No order."""


class NoNumber(LineError):
    """No number that is due here."""


class NoPatience(LineError):
    """No patience."""


class Nobody(LineError):
    """A line where nobody stands."""


class Nothing(LineError):
    """No deed left that could be undone."""


class NoHistory(LineError):
    """No list of deeds that can be done one after the other."""


class NoText(LineError):
    """No text of a plan; sign is the number of its first piece without form, or None."""

    def __init__(self, sign):
        LineError.__init__(self, "no text of a plan")
        self.sign = sign


class NoForm(LineError):
    """No row of a form that the desk knows."""


class NoneYet(LineError):
    """No row left that could be undone."""
