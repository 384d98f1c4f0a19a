"""Where in a text the values of arguments may stand.

The spans of an argument are a list: for each place of the text, its end included, the places
where a value that begins there may end, as bits.
"""

from readhome.bits import bits_from
from readhome.lookup import NUMBERS, stand_in


def word_spans(text):
    """The spans of a word."""
    return [bits_from(start + 1, end) for start, end in enumerate(run_ends(text, "a", "z"))]


def number_spans(text, numbers):
    """The spans of a number that is one of the numbers."""
    # A number of three digits or more is told by its last one.
    far_ends = 0
    for at, sign in enumerate(text):
        if "0" <= sign <= "9" and numbers >> (NUMBERS - 10 + int(sign)) & 1:
            far_ends = far_ends | 2 << at
    spans = []
    for start, end in enumerate(run_ends(text, "0", "9")):
        if text[start:start + 1] == "0":
            end = start + 1
        ends = 0
        for near in range(start + 1, min(start + 2, end) + 1):
            if numbers >> stand_in(int(text[start:near])) & 1:
                ends = ends | 1 << near
        if end > start + 2:
            ends = ends | far_ends & bits_from(start + 3, end)
        spans.append(ends)
    return spans


def run_ends(text, least, most):
    """For each place of the text where the run of signs from least to most ends that begins there."""
    ends = [len(text)]
    for at in range(len(text) - 1, -1, -1):
        ends.append(ends[-1] if least <= text[at] <= most else at)
    return ends[::-1]


def kept_spans(spans, text, value):
    """Those of the spans at which the value stands in the text."""
    kept = []
    for start, ends in enumerate(spans):
        fits = text.startswith(value, start)
        kept.append(ends & 1 << (start + len(value)) if fits else 0)
    return kept


def ends_of(spans, starts):
    """The places where a value may end that begins at one of the starts; both as bits."""
    found = 0
    for start, ends in enumerate(spans):
        if starts >> start & 1:
            found = found | ends
    return found


def starts_of(spans, ends):
    """The places where a value may begin that ends at one of the ends; both as bits."""
    found = 0
    for start, its in enumerate(spans):
        if its & ends:
            found = found | 1 << start
    return found


def places_of(text, part):
    """The places of the text at which the part stands, as bits."""
    found = 0
    at = text.find(part)
    while at >= 0:
        found = found | 1 << at
        at = text.find(part, at + 1)
    return found
