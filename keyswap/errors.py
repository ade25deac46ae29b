"""The refusals of wishes."""


class SwapError(ValueError):
    """Any refusal."""


class NoHouse(SwapError):
    """Some list names a number that is no house."""


class Twice(SwapError):
    """Some list names a house twice."""
