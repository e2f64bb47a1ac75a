"""The refusals: one error for each kind of thing that is handed in wrong."""


class LoopError(ValueError):
    """Any refusal."""


class BadLoop(LoopError):
    """What was handed in is no loop."""


class BadState(LoopError):
    """What was handed in is no state of the loop."""


class BadCount(LoopError):
    """What was handed in is no number of a way, or no number of turns."""


class BadGauge(LoopError):
    """What was handed in is no gauge for so many names."""


class BadTable(LoopError):
    """What was handed in makes no table."""


class BadText(LoopError):
    """What was handed in is no text of a loop."""
