"""The refusals of lorehall."""


class LoreError(ValueError):
    """Any refusal."""


class NoHall(LoreError):
    """What was handed in as a hall is none."""


class NoStand(LoreError):
    """What was handed in as a stand, or as a wish, is none of the hall."""


class NoBeat(LoreError):
    """What was handed in as a beat is none of the hall."""


class NoPlan(LoreError):
    """What was handed in as a plan is none of the hall."""


class NoThing(LoreError):
    """What was handed in as the place of a thing is none of the hall."""


class NoCount(LoreError):
    """What was handed in as a number of beats is none."""


class NoMeeting(LoreError):
    """What was handed in as a meeting is none of the hall."""


class TooMany(LoreError):
    """The hall has more stands than can be looked through; most is how many can be."""

    def __init__(self, most):
        super().__init__(f"the hall has more than {most} stands")
        self.most = most
