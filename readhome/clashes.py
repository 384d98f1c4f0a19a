"""Messages that can be read back, and texts that cannot ([27], [28])."""

from readhome.books import lawful_with
from readhome.meeting import ALONE, first_meeting
from readhome.nets import Net
from readhome.overlaps import Overlaps
from readhome.reading import least_readings
from readhome.tracks import Voice


def is_readable(book, name, tongue):
    """Whether any two different values of the message say different texts."""
    lookup = lawful_with(book, name, tongue)
    return not Overlaps().have_clash(Voice(lookup, name, tongue).ways)


def clash(book, name, tongue):
    """The triple of the first text that two values say and the two least of them, or None."""
    lookup = lawful_with(book, name, tongue)
    return first_clash(Voice(lookup, name, tongue), Overlaps())


def first_clash(voice, overlaps):
    """The triple that `clash` returns for the message in the tongue."""
    text = clash_text(voice.ways, overlaps)
    if text is None:
        return None
    first, second = least_readings(voice, text, 2)
    return (text, first, second)


def clash_text(ways, overlaps):
    """The shortest text that two values of these ways say, the first of these, or None."""
    net = Net()
    firsts = [net.add_way(way.fixed, way.slot_limits) for way in ways]
    pairs = []
    for at, way in enumerate(ways):
        for behind in overlaps.partners(ways, at):
            # Two values that differ in what is not shown share every text of their way.
            apart = behind > at or way.hides_values()
            pairs.append((firsts[at], firsts[behind] if apart else ALONE))
    return first_meeting(net, pairs)
