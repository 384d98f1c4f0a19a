"""The ways through the form of a message ([21] to [23])."""

from readhome.bits import bit_places
from readhome.books import lawful_with
from readhome.errors import BadValue
from readhome.tracks import ways_of
from readhome.values import are_values


def ways(book, name, tongue):
    """The pair (limits, pieces) of each way, in their order."""
    lookup = lawful_with(book, name, tongue)
    return tuple([
        (tuple([told_limit(limit) for limit in way.limits]), way.pieces)
        for way in ways_of(lookup, name, tongue)
    ])


def told_limit(limit):
    """A limit as it is told: numbers one by one."""
    return tuple(bit_places(limit)) if isinstance(limit, int) else limit


def way_of(book, name, tongue, values):
    """The number of the way that the values take."""
    lookup = lawful_with(book, name, tongue)
    if not are_values(lookup.arguments[name], values):
        raise BadValue(3)
    # Each value takes exactly one way.
    return [way.has(values) for way in ways_of(lookup, name, tongue)].index(True)
