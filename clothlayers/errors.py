"""The refusals of the program."""


class ClothError(ValueError):
    """Any refusal."""


class BadCloth(ClothError):
    """What was handed in is no cloth."""


class BadThread(ClothError):
    """What was handed in is no thread, or not such threads as are asked for."""


class BadCount(ClothError):
    """What was handed in is no whole number, or one that leads too far."""


class BadLoom(ClothError):
    """What was handed in is no loom."""


class BadText(ClothError):
    """What was handed in is no text that shows a cloth."""
