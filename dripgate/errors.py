"""The refusals of the gate."""


class GateError(ValueError):
    """Any refusal."""


class NoCaller(GateError):
    """A call of a number that no caller has."""
