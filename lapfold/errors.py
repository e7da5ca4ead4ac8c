"""The refusals. Each of the four is of its own kind, so that who catches one catches no other."""


class LapError(ValueError):
    """Any refusal."""


class BadForm(LapError):
    """What was handed in is no program."""


class Dry(LapError):
    """One more turn would begin than was told as a most."""


class NeedntFall(LapError):
    """The measure of the lap at the place is not shown to fall."""

    def __init__(self, place):
        LapError.__init__(self, f"the measure of the lap at {place} is not shown to fall")
        self.place = place


class Uneven(LapError):
    """The turns of the lap at the place can't be told as a sum."""

    def __init__(self, place):
        LapError.__init__(self, f"the turns of the lap at {place} can't be told as a sum")
        self.place = place
