"""Marks that make messages readable, and reasons against fewer of them ([33] to [36])."""

from readhome.books import is_lawful, lawful_with
from readhome.clashes import first_clash
from readhome.errors import BadValue
from readhome.joints import are_among, gaps_in, patterns_in, sets_of, with_marks
from readhome.lookup import Lookup
from readhome.overlaps import Overlaps
from readhome.paths import paths_of
from readhome.patterns import all_pieces
from readhome.saying import said
from readhome.tracks import Voice
from readhome.values import are_values
from readhome.words import frozen, is_row, is_within

# Within these bounds every set of gaps may be marked and leaves the book lawful.
MOST_GAPS = 6
MOST_MET = 10
MOST_IN_PATTERN = 4
MOST_IN_MESSAGE = 30
# A count that is more than all gaps that there may be.
MOST_COUNT = 7


def gaps(book, name, tongue):
    """The gaps of the message's form, ascending."""
    lookup = lawful_with(book, name, tongue)
    return tuple(gaps_of(lookup, name, tongue))


def marked(book, name, tongue, chosen):
    """The book with a mark in each of the chosen gaps of the message's form."""
    lookup = lawful_with(book, name, tongue)
    if not are_among(gaps_of(lookup, name, tongue), chosen):
        raise BadValue(3)
    result = marked_book(lookup, name, tongue, frozen(chosen))
    if not is_lawful(result):
        raise BadValue(0)
    return result


def marks(book, name, tongue):
    """The fewest gaps whose marks make the message readable, or None."""
    lookup = markable(book, name, tongue)
    return fewest_marks(lookup, name, tongue, Overlaps())


def reasons(book, name, tongue):
    """Pairs of values that show that fewer marks than `marks` tells do not do."""
    lookup = markable(book, name, tongue)
    overlaps = Overlaps()
    best = fewest_marks(lookup, name, tongue, overlaps)
    pairs = []
    for chosen in sets_of(gaps_of(lookup, name, tongue)):
        if best is None or len(chosen) < len(best):
            inner = Lookup(marked_book(lookup, name, tongue, chosen))
            if not is_told_against(inner, name, tongue, pairs):
                _, first, second = first_clash(Voice(inner, name, tongue), overlaps)
                pairs.append((first, second))
    return tuple(pairs)


def reasons_hold(book, name, tongue, count, value):
    """Whether value is pairs of values that tell against every set of fewer gaps than count."""
    lookup = markable(book, name, tongue)
    if not is_within(count, 0, MOST_COUNT):
        raise BadValue(3)
    if not are_pairs(lookup.arguments[name], value):
        return False
    pairs = frozen(value)
    for chosen in sets_of(gaps_of(lookup, name, tongue)):
        if len(chosen) < count:
            inner = Lookup(marked_book(lookup, name, tongue, chosen))
            if not is_told_against(inner, name, tongue, pairs):
                return False
    return True


def gaps_of(lookup, name, tongue):
    """The gaps of the form that the message has in the tongue."""
    return gaps_in(lookup.form(name, tongue)[1], ())


def marked_book(lookup, name, tongue, chosen):
    """The book with a mark in each of the chosen gaps of the form that the message has there."""
    tongues, messages = lookup.book
    home, pattern = lookup.form(name, tongue)
    forms = dict(lookup.forms[name])
    forms[home] = with_marks(pattern, (), chosen)
    return (tongues, tuple([
        (title, arguments, tuple(forms.items()) if title == name else old)
        for title, arguments, old in messages
    ]))


def markable(book, name, tongue):
    """The lawful book, made ready, if the message is within the bounds of [35]."""
    lookup = lawful_with(book, name, tongue)
    _, pattern = lookup.form(name, tongue)
    fits = (
        len(gaps_in(pattern, ())) <= MOST_GAPS
        and max([len(steps) for _, steps in paths_of(lookup, name, tongue)]) <= MOST_MET
        and max([len(inner) for inner in patterns_in(pattern)]) <= MOST_IN_PATTERN
        and sum([len(all_pieces(form)) for form in lookup.forms[name].values()]) <= MOST_IN_MESSAGE
        and name not in term_names(lookup)
    )
    if not fits:
        raise BadValue(1)
    return lookup


def term_names(lookup):
    """The names of the messages that terms name."""
    return [
        piece[1]
        for forms in lookup.forms.values() for pattern in forms.values()
        for piece in all_pieces(pattern) if piece[0] == "term"
    ]


def fewest_marks(lookup, name, tongue, overlaps):
    """What `marks` returns for the message in the tongue."""
    for chosen in sets_of(gaps_of(lookup, name, tongue)):
        inner = Lookup(marked_book(lookup, name, tongue, chosen))
        if not overlaps.have_clash(Voice(inner, name, tongue).ways):
            return chosen
    return None


def are_pairs(arguments, value):
    """Whether value is a sequence of pairs of values of a message with these arguments."""
    if not isinstance(value, (list, tuple)):
        return False
    for pair in value:
        if not is_row(pair, 2, 2) or not all([are_values(arguments, item) for item in pair]):
            return False
    return True


def is_told_against(lookup, name, tongue, pairs):
    """Whether two different values of one of the pairs say the same text."""
    for first, second in pairs:
        if first != second:
            if said(lookup, name, tongue, first) == said(lookup, name, tongue, second):
                return True
    return False
