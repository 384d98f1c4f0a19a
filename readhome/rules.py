"""The rules that make a book lawful ([17]), for one form of a message."""

from readhome.paths import MOST_WAYS, paths_of
from readhome.patterns import all_pieces
from readhome.words import are_different

MOST_STEPS = 16
MOST_SIGNS = 80


def broken_rule(lookup, name, tongue, before):
    """The first rule that the message's form for the tongue breaks, or None.

    before are the names of the messages that stand before this one.
    """
    kinds = dict(lookup.arguments[name])
    pieces = all_pieces(lookup.forms[name][tongue])
    cases = [piece for piece in pieces if piece[0] == "case"]
    terms = [piece for piece in pieces if piece[0] == "term"]
    classes = [item[0] for item in lookup.classes[tongue]]
    if not all(has_right_name(piece, kinds) for piece in pieces):
        return "name"
    if not all(has_right_keys(piece, kinds, classes) for piece in cases):
        return "key"
    if not all(has_right_message(term, before) for term in terms):
        return "term"
    if not all(has_right_bindings(term, lookup.arguments[term[1]], kinds) for term in terms):
        return "term"
    # Only a form that keeps the rules above has ways: what it names is there.
    ways = paths_of(lookup, name, tongue)
    if len(ways) > MOST_WAYS or not all(is_short(steps) for _, steps in ways):
        return "ways"
    if not all(shows_once(steps) for _, steps in ways):
        return "once"
    return None


def has_right_name(piece, kinds):
    """Whether the piece, if it is a show or a case, names an argument of a kind that fits."""
    if piece[0] == "show":
        return piece[1] in kinds and kinds[piece[1]][0] in ("number", "word")
    if piece[0] == "case":
        return piece[1] in kinds and kinds[piece[1]][0] in ("choice", "number")
    return True


def has_right_keys(piece, kinds, classes):
    """Whether the keys before the last are options or classes, or tell a number."""
    _, argument, branches = piece
    kind = kinds[argument]
    keys = [branch[0] for branch in branches[:-1]]
    if kind[0] == "choice":
        return all(key in kind[1] for key in keys)
    return all(key in classes or key[0] == "=" for key in keys)


def has_right_message(term, before):
    """Whether the term names a message that stands before its own."""
    return term[1] in before


def has_right_bindings(term, arguments, kinds):
    """Whether the term binds just the arguments of its message, each to what fits its kind."""
    bindings = term[2]
    if [binding[0] for binding in bindings] != [argument[0] for argument in arguments]:
        return False
    return all([
        is_right_source(binding[1], argument[1], kinds)
        for binding, argument in zip(bindings, arguments)
    ])


def is_right_source(source, kind, kinds):
    """Whether an argument of the kind may be bound to the source."""
    word, name = source
    if word == "argument":
        return name in kinds and kinds[name] == kind
    return kind[0] == "choice" and name in kind[1]


def is_short(steps):
    """Whether a way with these steps is within the bounds of pieces and characters."""
    signs = sum([len(step[1]) for step in steps if step[0] == "text"])
    return len(steps) <= MOST_STEPS and signs <= MOST_SIGNS


def shows_once(steps):
    """Whether no argument is shown twice."""
    return are_different([step[1] for step in steps if step[0] == "show"])
