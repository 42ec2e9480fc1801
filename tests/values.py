"""What tests do with the values that go into calls and come out of them."""

import copy

from lookcrowd.crowds import Crowd
from lookcrowd.errors import CrowdError
from lookcrowd.families import Family
from lookcrowd.rules import Book


def plain(value):
    """What a value tells, as plain lists."""
    if isinstance(value, Family):
        return ["family", value.kinds, value.boxes, len(value), value.first(), value.bound()]
    if isinstance(value, Book):
        return ["book", value.kinds, value.rules, len(value)]
    if isinstance(value, Crowd):
        return ["crowd", value.counts, value.run, value.able(), len(value)]
    if isinstance(value, dict):
        return {name: plain(given) for name, given in value.items()}
    return copy.deepcopy(value)


def lists_in(value):
    """All lists in a value, one entry for each place."""
    if isinstance(value, dict):
        return [found for given in value.values() for found in lists_in(given)]
    if isinstance(value, (list, tuple)):
        inner = [found for given in value for found in lists_in(given)]
        return inner + [value] if isinstance(value, list) else inner
    return []


def spoil(value):
    """Change all lists in a value."""
    for found in lists_in(value):
        found.reverse()
        found.append("spoiled")
        del found[0]


def answer(call, given):
    """What a call returns, or the value of the error that it raises."""
    try:
        return call(*given.values())
    except CrowdError as error:
        return error.value
