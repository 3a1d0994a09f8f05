"""The refusals: each kind has a class of its own, straight under WeighError."""


class WeighError(ValueError):
    """Any refusal."""


class Nought(WeighError):
    """A bottom of nought, or a division by nought."""


class NoText(WeighError):
    """What is not just what is written of some share."""


class NoRow(WeighError):
    """What is no list of so many shares."""


class NoMachine(WeighError):
    """What is no machine."""


class NoWord(WeighError):
    """What is no word of the machine."""


class OtherSigns(WeighError):
    """Two machines whose signs differ."""


class TooMany(WeighError):
    """More rooms than a machine may have."""
