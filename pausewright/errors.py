"""The refusals of the program."""


class PauseError(ValueError):
    """Any refusal."""


class BadWork(PauseError):
    """A program that can't be; work is the number of its first work that is none."""

    def __init__(self, work):
        PauseError.__init__(self, f"work {work} is none")
        self.work = work


class BadAsk(PauseError):
    """What can't be asked: of no work, with no such numbers, or by what are no deeds."""


class BadText(PauseError):
    """A text that is no program; row is the number of the first row that can't stand there."""

    def __init__(self, row):
        PauseError.__init__(self, f"row {row} can't stand there")
        self.row = row
