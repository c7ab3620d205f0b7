"""The refusals."""


class RollError(ValueError):
    """Any refusal."""


class NoStrip(RollError):
    """What is handed in is no number of cells that a strip can have."""


class NoWinding(RollError):
    """What is handed in is no winding."""


class NoAngle(RollError):
    """What is handed in is no angle."""


class NotWound(RollError):
    """The roll is not wound."""


class NothingLeft(RollError):
    """There is nothing left that could be taken back."""
