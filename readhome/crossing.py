"""From one tongue to another, and texts that several messages say ([29] to [32])."""

from readhome.books import lawful, lawful_with
from readhome.errors import BadValue, NotSaid, Twofold
from readhome.meeting import first_meeting
from readhome.nets import Net
from readhome.overlaps import Overlaps
from readhome.reading import first_reading, least_readings
from readhome.saying import said
from readhome.tracks import Voice
from readhome.words import are_different, is_row


def carried(book, name, source, target, text):
    """What the value that says the text in one tongue says in the other."""
    lookup = lawful_with(book, name, source)
    lookup.check_tongue(target)
    if not isinstance(text, str):
        raise BadValue(4)
    found = least_readings(Voice(lookup, name, source), text, 2)
    if not found:
        raise NotSaid(text)
    if len(found) > 1:
        raise Twofold(found[0], found[1])
    return said(lookup, name, target, found[0])


def shared(book, one, other, tongue):
    """The triple of the first text that both messages say and the least value of each, or None."""
    lookup = lawful(book)
    lookup.check_message(one)
    lookup.check_message(other)
    lookup.check_tongue(tongue)
    if one == other:
        raise BadValue(2)
    return first_shared(Voice(lookup, one, tongue), Voice(lookup, other, tongue), Overlaps())


def are_apart(book, names, tongue):
    """Whether every text is said by at most one value of at most one of the messages."""
    lookup = lawful(book)
    if not are_messages_of(lookup, names):
        raise BadValue(1)
    lookup.check_tongue(tongue)
    # Ways of two messages that have a text in common are two values that say it, too.
    ways = [way for name in names for way in Voice(lookup, name, tongue).ways]
    return not Overlaps().have_clash(ways)


def which(book, tongue, text):
    """The pairs of the name of a message that says the text and its least value that does."""
    lookup = lawful(book)
    lookup.check_tongue(tongue)
    if not isinstance(text, str):
        raise BadValue(2)
    voices = [(name, Voice(lookup, name, tongue)) for name in lookup.arguments]
    return readings_among(voices, text)


def readings_among(voices, text):
    """For each voice that says the text the pair of its name and its least value that does."""
    found = [(name, first_reading(voice, text)) for name, voice in voices]
    return tuple([(name, values) for name, values in found if values is not None])


def are_messages_of(lookup, names):
    """Whether names is a sequence of different names of messages."""
    if not is_row(names, 0, len(lookup.arguments)):
        return False
    if not all([isinstance(name, str) and name in lookup.arguments for name in names]):
        return False
    return are_different(names)


def first_shared(one, other, overlaps):
    """The triple that `shared` returns for two messages in the tongue."""
    text = shared_text(one.ways, other.ways, overlaps)
    if text is None:
        return None
    return (text, first_reading(one, text), first_reading(other, text))


def shared_text(ways, others, overlaps):
    """The shortest text that one of the ways and one of the others say, the first of these."""
    net = Net()
    firsts = [net.add_way(way.fixed, way.slot_limits) for way in ways]
    seconds = [net.add_way(way.fixed, way.slot_limits) for way in others]
    pairs = []
    for first, way in zip(firsts, ways):
        for second, other in zip(seconds, others):
            if overlaps.have_common(way, other):
                pairs.append((first, second))
    return first_meeting(net, pairs)
