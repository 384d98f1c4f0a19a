"""A way laid over a text: where its slots may stand there, and which values they may show."""

from readhome.bits import bit_places
from readhome.lookup import NUMBERS
from readhome.spans import ends_of, kept_spans, number_spans, places_of, starts_of, word_spans
from readhome.words import LETTERS


class Layout:
    """A way laid over a text, in which some of the arguments may have been given a value."""

    def __init__(self, way, text, places, spans):
        self.way = way
        self.text = text
        # For each of the fixed texts where it stands, for each slot where its values may stand.
        self.places = places
        self.spans = spans

    def starts(self, slot):
        """The places where the slot may begin for what stands before it, as bits.

        The slot behind the last one is the end of the text.
        """
        starts = 1
        for at in range(slot + 1):
            if at > 0:
                starts = ends_of(self.spans[at - 1], starts)
            starts = (starts & self.places[at]) << len(self.way.fixed[at])
        return starts

    def ends(self, slot):
        """The places where the slot may end for what stands behind it, as bits."""
        ends = 1 << len(self.text)
        for at in range(len(self.spans), slot, -1):
            ends = ends >> len(self.way.fixed[at]) & self.places[at]
            if at > slot + 1:
                ends = starts_of(self.spans[at - 1], ends)
        return ends

    def says_text(self):
        """Whether some value of the way says the text."""
        return self.starts(len(self.spans)) >> len(self.text) & 1 == 1

    def least_values(self, at, many):
        """The least values of the argument for which others say the text, at most so many."""
        limit = self.way.limits[at]
        if at not in self.way.slots:
            return least_within(limit, many)
        found = self.least_shown(self.way.slots.index(at), many)
        return found if limit is None else [int(digits) for digits in found]

    def least_shown(self, slot, many):
        """The least that the slot may show, at most so many."""
        ends = self.ends(slot)
        # The lengths of what begins at a place, as bits.
        lengths = {
            start: (self.spans[slot][start] & ends) >> start
            for start in bit_places(self.starts(slot))
        }
        every = 0
        for bits in list(lengths.values()):
            every = every | bits
        found = []
        for length in bit_places(every):
            if len(found) < many:
                found.extend(sorted({
                    self.text[start:start + length]
                    for start, bits in lengths.items() if bits >> length & 1
                }))
        return found[:many]

    def with_value(self, at, value):
        """The same for those values of the message that have this value of the argument."""
        if at not in self.way.slots:
            return self
        slot = self.way.slots.index(at)
        spans = list(self.spans)
        spans[slot] = kept_spans(spans[slot], self.text, str(value))
        return Layout(self.way, self.text, self.places, spans)


def layouts_of(ways, text):
    """The ways laid over the text, as far as they say it."""
    spans = {None: word_spans(text)}
    found = []
    for way in ways:
        for limit in way.slot_limits:
            if limit not in spans:
                spans[limit] = number_spans(text, limit)
        places = [places_of(text, fixed) for fixed in way.fixed]
        found.append(Layout(way, text, places, [spans[limit] for limit in way.slot_limits]))
    return [layout for layout in found if layout.says_text()]


def least_within(limit, many):
    """The least values within the limit of an argument, at most so many."""
    if limit is None:
        # Never more than 20 are asked for, so words of one letter are enough.
        return list(LETTERS[:many])
    if not isinstance(limit, int):
        return list(limit[:many])
    found = bit_places(limit)
    last_digits = limit >> (NUMBERS - 10)
    number = NUMBERS
    while last_digits and len(found) < many:
        if last_digits >> (number % 10) & 1:
            found.append(number)
        number += 1
    return found[:many]
