"""Messages that can be read back, and texts that cannot ([27], [28])."""

from readhome.books import lawful_with
from readhome.meeting import ALONE, first_meeting
from readhome.nets import Net
from readhome.reading import least_readings
from readhome.tracks import ways_of


def is_readable(book, name, tongue):
    """Whether any two different values of the message say different texts."""
    lookup = lawful_with(book, name, tongue)
    return clash_text(ways_of(lookup, name, tongue)) is None


def clash(book, name, tongue):
    """The triple of the first text that two values say and the two least of them, or None."""
    lookup = lawful_with(book, name, tongue)
    ways = ways_of(lookup, name, tongue)
    text = clash_text(ways)
    if text is None:
        return None
    first, second = least_readings(lookup.arguments[name], ways, text, 2)
    return (text, first, second)


def clash_text(ways):
    """The shortest text that two values of these ways say, the first of these, or None."""
    net = Net()
    firsts = [net.add_way(way) for way in ways]
    pairs = []
    for at, way in enumerate(ways):
        # Two values that differ in what is not shown share every text of their way.
        pairs.append((firsts[at], firsts[at] if way.hides_values() else ALONE))
        for behind in range(at + 1, len(ways)):
            if may_end_alike(way, ways[behind]):
                pairs.append((firsts[at], firsts[behind]))
    return first_meeting(net, pairs)


def may_end_alike(one, other):
    """Whether the signs behind the last slots of two ways allow that their texts end alike."""
    return one.fixed[-1].endswith(other.fixed[-1]) or other.fixed[-1].endswith(one.fixed[-1])
