"""The errors by which the program refuses what it is handed."""


class TailError(ValueError):
    """What every refusal of this program is."""


class NoFrame(TailError):
    """What stands for a frame is none."""


class NoBoard(TailError):
    """What stands for a board is none."""


class NoRow(TailError):
    """What stands for a row of cuts of the frame is none."""


class NoEffect(TailError):
    """What stands for an effect of the frame is none."""


class NoTimes(TailError):
    """What stands for a number of times is none, or too great a one."""


class NoJoints(TailError):
    """What stands for the joints of an effect are none."""


class NoCuts(TailError):
    """What stands for a number of cuts is none, or too great a one."""


class NoAt(TailError):
    """At this number of the row stands no cut that has a next one."""


class NotShort(TailError):
    """The row has more cuts than its effect takes."""


class NoGoal(TailError):
    """What stands for a goal is no board of the same frame."""


class NoPrices(TailError):
    """What stands for the prices of the places are none."""


class NoWishes(TailError):
    """What stands for the wishes of a board are none."""


class NoCut(TailError):
    """What stands for a cut of the frame is none."""


class NoRibbon(TailError):
    """What stands for a ribbon of the frame is none."""


class NoPlace(TailError):
    """What stands for a place of the frame is none."""


class NothingDone(TailError):
    """No deed stands that could be undone."""


class NoText(TailError):
    """What stands for a written text is none."""


class NoLine(TailError):
    """What a desk was told is no line that it takes."""
