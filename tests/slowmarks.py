"""Gaps, marks and reasons told once more, slowly and from the words of the document alone."""

import itertools

from readhome.clashes import is_readable
from tests import reference
from tests.samples import part_at, with_part


def gaps(book, name, tongue):
    """What `gaps` should return."""
    found = []

    def walk(pattern, before):
        for at, piece in enumerate(pattern):
            if at > 0:
                found.append((*before, at))
            for number, row in enumerate(piece[2] if piece[0] == "case" else ()):
                walk(row[1], (*before, at, number))

    walk(reference.form_of(book, name, tongue)[1], ())
    return tuple(sorted(found))


def marked(book, name, tongue, chosen):
    """What `marked` should return, if it is lawful: the marks are put in from the last to the first."""
    home, _ = reference.form_of(book, name, tongue)
    message = [row[0] for row in book[1]].index(name)
    form = [row[0] for row in book[1][message][2]].index(home)
    for gap in sorted(chosen, reverse=True):
        path = (1, message, 2, form, 1)
        for case, branch in zip(gap[:-1:2], gap[1::2]):
            path += (case, 2, branch, 1)
        path += (gap[-1],)
        book = with_part(book, path, (("mark",), part_at(book, path)))
    return book


def is_markable(book, name, tongue):
    """Whether `marks` takes the message; it has few numbers."""
    home, pattern = reference.form_of(book, name, tongue)
    arguments, forms = {row[0]: row[1:] for row in book[1]}[name]
    met = max(
        sum(word != "branch" for word, _ in reference.met(book, home, pattern, {
            row[0]: (value, row[0]) for row, value in zip(arguments, values)}))
        for values in reference.values_of(arguments, 42))
    longest = max(len(inner) for inner in [pattern] + [
        row[1] for piece in reference.pieces_in(pattern) if piece[0] == "case" for row in piece[2]])
    pieces = sum(len(list(reference.pieces_in(form[1]))) for form in forms)
    named = [piece[1] for row in book[1] for form in row[2]
             for piece in reference.pieces_in(form[1]) if piece[0] == "term"]
    return (len(gaps(book, name, tongue)) <= 6 and met <= 10 and longest <= 4 and pieces <= 30
            and name not in named)


def sets_below(book, name, tongue, count):
    """The sets of fewer gaps than count, those of fewer first, then in order."""
    every = gaps(book, name, tongue)
    for many in range(min(count, len(every) + 1)):
        yield from itertools.combinations(every, many)


def marks(book, name, tongue):
    """What `marks` should return."""
    for chosen in sets_below(book, name, tongue, 7):
        if is_readable(marked(book, name, tongue, chosen), name, tongue):
            return chosen
    return None


def reasons_hold(book, name, tongue, count, pairs):
    """What `reasons_hold` should return for pairs of values."""
    for chosen in sets_below(book, name, tongue, count):
        its = marked(book, name, tongue, chosen)
        if not any(tuple(first) != tuple(second)
                   and reference.say(its, name, tongue, first) == reference.say(its, name, tongue, second)
                   for first, second in pairs):
            return False
    return True
