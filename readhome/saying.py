"""What the values of a message say ([18] to [20])."""

from readhome.books import lawful, lawful_with
from readhome.errors import BadValue
from readhome.lookup import branch_taken, class_among
from readhome.values import are_values, is_number
from readhome.words import MARK_SIGN


def is_value(book, name, value):
    """Whether value is a value of the message."""
    lookup = lawful(book)
    lookup.check_message(name)
    return are_values(lookup.arguments[name], value)


def class_of(book, tongue, number):
    """The class of the number in the tongue."""
    lookup = lawful(book)
    lookup.check_tongue(tongue)
    if not is_number(number):
        raise BadValue(2)
    return class_among(lookup.classes[tongue], number)


def form_of(book, name, tongue):
    """The pair (tongue, pattern) of the form that the message has in the tongue."""
    lookup = lawful_with(book, name, tongue)
    return lookup.form(name, tongue)


def say(book, name, tongue, values):
    """The text that the values say."""
    lookup = lawful_with(book, name, tongue)
    if not are_values(lookup.arguments[name], values):
        raise BadValue(3)
    return said(lookup, name, tongue, values)


def said(lookup, name, tongue, values):
    """The text that the values of the message say in a book that was made ready."""
    home, pattern = lookup.form(name, tongue)
    names = [argument[0] for argument in lookup.arguments[name]]
    return pattern_said(lookup, home, pattern, dict(zip(names, values)))


def pattern_said(lookup, tongue, pattern, held):
    """What the pattern of a form of the tongue says; held are the values by argument."""
    return "".join([piece_said(lookup, tongue, piece, held) for piece in pattern])


def piece_said(lookup, tongue, piece, held):
    """What a piece of a form of the tongue says; held are the values by argument."""
    if piece[0] == "text":
        return piece[1]
    if piece[0] == "mark":
        return MARK_SIGN
    if piece[0] == "show":
        return str(held[piece[1]])
    if piece[0] == "case":
        _, argument, branches = piece
        at = branch_taken(branches, lookup.signs(tongue, held[argument]))
        return pattern_said(lookup, tongue, branches[at][1], held)
    _, name, bindings = piece
    return said(lookup, name, tongue, [bound_value(source, held) for _, source in bindings])


def bound_value(source, held):
    """The value that a binding gives."""
    word, name = source
    return held[name] if word == "argument" else name
