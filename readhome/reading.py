"""The values that say a text ([24] to [26])."""

from readhome.books import lawful_with
from readhome.errors import BadValue
from readhome.layouts import layouts_of
from readhome.tracks import Voice
from readhome.words import is_within

MOST_READINGS = 20


def readings(book, name, tongue, text, limit):
    """The least values that say the text, ascending, at most limit."""
    lookup = lawful_with(book, name, tongue)
    if not isinstance(text, str):
        raise BadValue(3)
    if not is_within(limit, 1, MOST_READINGS):
        raise BadValue(4)
    return least_readings(Voice(lookup, name, tongue), text, limit)


def read(book, name, tongue, text):
    """The least value that says the text, or None."""
    lookup = lawful_with(book, name, tongue)
    if not isinstance(text, str):
        raise BadValue(3)
    return first_reading(Voice(lookup, name, tongue), text)


def first_reading(voice, text):
    """The least value that says the text, or None."""
    found = least_readings(voice, text, 1)
    return found[0] if found else None


def least_readings(voice, text, limit):
    """The least values that say the text, ascending, at most limit."""
    found = []
    layouts = layouts_of(voice.ways, text)
    if layouts:
        add_readings(voice.arguments, layouts, (), limit, found)
    return tuple(found)


def add_readings(arguments, layouts, before, limit, found):
    """Add to what is found, up to the limit, the values of the layouts that begin with before."""
    at = len(before)
    if at == len(arguments):
        found.append(before)
        return
    held = {}
    for layout in layouts:
        for value in layout.least_values(at, limit):
            held.setdefault(value, []).append(layout)
    for value in in_order(arguments[at][1], list(held)):
        # Each of the values begins one reading at least, so few of them are followed.
        if len(found) < limit:
            fitting = [layout.with_value(at, value) for layout in held[value]]
            add_readings(arguments, fitting, before + (value,), limit, found)


def in_order(kind, values):
    """Values of an argument of the kind in their order."""
    if kind[0] == "number":
        return sorted(values)
    if kind[0] == "word":
        return sorted(values, key=lambda word: (len(word), word))
    return [option for option in kind[1] if option in values]
