"""All refusals of the program."""


class ReelError(ValueError):
    """What all refusals have in common."""


class BadNumber(ReelError):
    """No whole number, or none within its limits."""


class BadName(ReelError):
    """No name, or no block that could be written."""


class BadReel(ReelError):
    """No reel, or no set of reels."""


class NoRing(ReelError):
    """A reel without its ring is not written."""


class AtEnd(ReelError):
    """Nothing stands behind the place."""


class AtStart(ReelError):
    """Nothing stands ahead of the place."""


class TooLong(ReelError):
    """The tape has no room for it."""


class BadForm(ReelError):
    """No form, or no block and size that go with it."""


class BadRecord(ReelError):
    """No list of records that fit."""


class BadBlock(ReelError):
    """No blocks that could stand so."""


class BadLabel(ReelError):
    """No label, or not the one that is due."""


class NoReel(ReelError):
    """There are too few reels."""


class NoFile(ReelError):
    """There is no such file."""

    def __init__(self, number):
        # The number may be anything that was handed in, so it is kept and never shown here.
        super().__init__("there is no such file")
        self.number = number


class Kept(ReelError):
    """A file that would be lost is to be kept."""

    def __init__(self, number):
        super().__init__("the file is to be kept")
        self.number = number
