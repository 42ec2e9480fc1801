"""Checks that several files share."""

from lookcrowd.errors import InvalidCrowd, UnlikeKinds


def check_crowd(crowd, kinds):
    """Raise InvalidCrowd unless a list is a crowd of so many kinds."""
    if len(crowd) != kinds or any([many < 0 for many in crowd]):
        raise InvalidCrowd(list(crowd))


def check_alike(own, other):
    """Raise UnlikeKinds unless two numbers of kinds are the same."""
    if own != other:
        raise UnlikeKinds((own, other))
