"""The refusals of the program."""


class SinkError(ValueError):
    """Any refusal."""


class BadPlan(SinkError):
    """A plan can't be; `part` is its first part that can't, -1 for no tuple of four."""

    def __init__(self, part):
        super().__init__(f"no plan: part {part}")
        self.part = part


class BadWork(SinkError):
    """A work can't be; `number` is that of the first one in it that can't."""

    def __init__(self, number):
        super().__init__(f"no work: number {number}")
        self.number = number


class BadPair(SinkError):
    """A pair of stacks can't be; `number` is that of the first one that can't."""

    def __init__(self, number):
        super().__init__(f"no pair of stacks: number {number}")
        self.number = number


class BadText(SinkError):
    """A written work can't be; `place` is that of the first sign that can't stand there."""

    def __init__(self, place):
        super().__init__(f"no written work: place {place}")
        self.place = place


class BadStack(SinkError):
    """A stack can't be."""


class BadTriple(SinkError):
    """A triple can't be."""


class BadSteps(SinkError):
    """Steps can't be."""


class BadSign(SinkError):
    """A sign can't be."""


class BadCount(SinkError):
    """A count or a number of a triple can't be."""
