"""The refusals of a hall."""


class HallError(ValueError):
    """What a hall refuses."""


class NoThing(HallError):
    """What is handed in is no thing that is there, or no list of such."""


class Twice(HallError):
    """A thing stands twice in a list."""


class Full(HallError):
    """As many things are there as can be."""
