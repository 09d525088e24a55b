"""The refusals: one class for each kind."""


class ShareError(ValueError):
    """Any refusal."""


class BadDay(ShareError):
    """A day that is too early."""


class BadNumber(ShareError):
    """A number that is too low for what it tells."""


class SameHands(ShareError):
    """The giver is the taker."""


class TooFew(ShareError):
    """There are not so many shares."""


class Uneven(ShareError):
    """Something does not come out whole."""


class NoDays(ShareError):
    """There is nothing to share coins out by."""


class NoDeed(ShareError):
    """A deed's word is none that a book knows."""
