"""What the program refuses, one error class for each kind of refusal."""


class WeaveError(ValueError):
    """Any refusal."""


class TooMany(WeaveError):
    """A row has more steps than it may have."""


class BadStep(WeaveError):
    """A thing in a row is no step."""


class BadBox(WeaveError):
    """A step is of a box that is not there."""


class Again(WeaveError):
    """A hand takes the guard while it holds it itself."""


class NotHeld(WeaveError):
    """A hand frees the guard while it does not hold it."""


class NoTurn(WeaveError):
    """A hand whose row is over is asked for a step."""


class Waits(WeaveError):
    """A hand that must wait is asked for its step."""


class Stuck(WeaveError):
    """Neither hand can go on, and a row is not over."""
