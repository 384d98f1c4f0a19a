"""Readers of several messages at once ([37] to [39])."""

from readhome.books import lawful
from readhome.clashes import first_clash
from readhome.crossing import first_shared, readings_among
from readhome.errors import BadValue, NoMessage, NotSaid, Shared, Twofold
from readhome.overlaps import Overlaps
from readhome.saying import said
from readhome.tracks import Voice


class Reader:
    """Reads the texts that the messages put into it say in a tongue."""

    def __init__(self, book, tongue):
        lookup = lawful(book)
        lookup.check_tongue(tongue)
        self.lookup = lookup
        self.voices = {name: Voice(lookup, name, tongue) for name in lookup.arguments}
        self.overlaps = Overlaps()
        # The names of the messages that are in, each with True.
        self.inside = {}

    def put(self, name):
        """Put the message in, if it is readable and shares no text with one that is in."""
        self.lookup.check_message(name)
        if name in self.inside:
            return
        clash = first_clash(self.voices[name], self.overlaps)
        if clash is not None:
            raise Twofold(clash[1], clash[2])
        for other in self.names():
            common = first_shared(self.voices[other], self.voices[name], self.overlaps)
            if common is not None:
                raise Shared(other, common[0])
        self.inside[name] = True

    def take(self, name):
        """Take the message out."""
        if name not in self:
            raise NoMessage(name)
        del self.inside[name]

    def names(self):
        """The names of the messages that are in, in the sequence of the book."""
        return tuple([name for name in self.voices if name in self.inside])

    def __contains__(self, name):
        return isinstance(name, str) and name in self.inside

    def __len__(self):
        return len(self.inside)

    def read(self, text):
        """The pair of the name of the message that says the text and its value."""
        if not isinstance(text, str):
            raise BadValue(0)
        found = readings_among([(name, self.voices[name]) for name in self.names()], text)
        if not found:
            raise NotSaid(text)
        return found[0]

    def carried(self, text, target):
        """What the value that says the text says in another tongue."""
        name, values = self.read(text)
        self.lookup.check_tongue(target)
        return said(self.lookup, name, target, values)
