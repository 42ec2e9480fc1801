"""The errors of the package, each with the value that tells what is wrong."""


class CrowdError(ValueError):
    """Any error that the package raises."""

    def __init__(self, value):
        self.value = value


class InvalidName(CrowdError):
    """A text that is no name of a kind."""


class DoubleName(CrowdError):
    """A kind that stood before."""


class InvalidRule(CrowdError):
    """A rule of no kinds, one that changes nothing, or one that is not there."""


class DoubleRule(CrowdError):
    """A rule that stood before."""


class InvalidBox(CrowdError):
    """The index of a box that is none."""


class InvalidCrowd(CrowdError):
    """A list that is no crowd of the kinds at hand, or a number that cannot join one."""


class UnlikeKinds(CrowdError):
    """Two numbers of kinds, or two lists of kinds, that are unlike."""


class NotAble(CrowdError):
    """A rule that cannot be done, or its index in a run."""


class NothingToUndo(CrowdError):
    """Nothing was done that could be taken back."""


class Unreadable(CrowdError):
    """A text that nothing has."""
