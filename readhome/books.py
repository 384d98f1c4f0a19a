"""Books: what is one, and which are lawful ([15] to [17])."""

from readhome.errors import BadValue
from readhome.lookup import Lookup
from readhome.parts import are_messages, are_tongues
from readhome.rules import broken_rule
from readhome.words import frozen, is_row


def is_book(value):
    """Whether value is a book; what its patterns name need not be there."""
    if not is_row(value, 2, 2) or not are_tongues(value[0]):
        return False
    return are_messages(value[1], [tongue[0] for tongue in value[0]])


def fault(value):
    """The triple (message, tongue, rule) of the first broken rule, or None."""
    if not is_book(value):
        raise BadValue(0)
    return first_fault(Lookup(frozen(value)))


def is_lawful(value):
    """Whether value is a book that breaks no rule."""
    return is_book(value) and first_fault(Lookup(frozen(value))) is None


def lawful(value):
    """The lawful book that value is, made ready."""
    if is_book(value):
        # The copy is of tuples only, so nothing that happens to value later changes it.
        lookup = Lookup(frozen(value))
        if first_fault(lookup) is None:
            return lookup
    raise BadValue(0)


def lawful_with(book, name, tongue):
    """The lawful book, made ready, in which there are a message and a tongue of these names."""
    lookup = lawful(book)
    lookup.check_message(name)
    lookup.check_tongue(tongue)
    return lookup


def first_fault(lookup):
    """The triple that `fault` returns for the book that was made ready."""
    before = []
    for name, forms in lookup.forms.items():
        for tongue in forms:
            rule = broken_rule(lookup, name, tongue, before)
            if rule is not None:
                return (name, tongue, rule)
        before.append(name)
    return None
