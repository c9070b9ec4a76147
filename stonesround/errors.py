"""The refusals: one class for each thing that can be wrong."""


class PushError(ValueError):
    """What every refusal of this package is."""


class BadWeb(PushError):
    """What was handed in as a web is none."""


class BadPlace(PushError):
    """The web has no such place."""


class BadStones(PushError):
    """What was handed in as stones is none, or not on this web."""


class BadPush(PushError):
    """There is no such stone, or no road of its place leads there."""
